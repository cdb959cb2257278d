/- What functions of the program come to: own work. -/
import Derived.Test.YtfopajklnakmpaaEngI
import Derived.OpenShut
import Derived.ChangeSame
import Derived.ChangeArms
/-
  ENGINE, part 30a: functions from data to data, as known calls. Own work.
-/
namespace Go.Eng
open Go
/-- a function from data to data -/
def pureX (f : Nat) (s : List V → Option V) : Orc := fun t args h => match t with
  | .fn f' => match Nat.beq f' f with
    | true => (match s args with | some v => some (v, h) | none => none)
    | false => none
  | .yld _ => none
end Go.Eng
/-
  ENGINE, part 33: functions from data to a slice of new cells, as known calls. Own work.
-/
namespace Go.Eng
open Go
end Go.Eng
/-
  ENGINE, part 34: functions of a slice's bytes, as known calls. Own work.
-/
namespace Go.Eng
open Go
def unB : List V → Option (List Nat)
  | [] => some []
  | .int .u8 (.ofNat a) :: r => match unB r with
    | some l => some (a :: l)
    | none => none
  | _ => none
/-- the bytes of a slice -/
noncomputable def rdC (n off : Nat) (b : Option Blk) : Option (List Nat) := match b with
  | some (.cells vs _) => match readN vs off n with
    | some l => unB l
    | none => none
  | _ => none
@[congr] theorem rdC_congr {n off : Nat} {b b' : Option Blk} (e : b = b') : rdC n off b = rdC n off b' := by rw [e]
end Go.Eng
/-
  ENGINE, part 35: calls whose arguments are known by content, and whose answer is a slice of new cells (and data beside it). Own work.
-/
namespace Go.Eng
open Go
end Go.Eng
namespace Go.Eng
open Go
variable {E : Nat → Option Fn} {X : Orc}
set_option linter.unusedSimpArgs false
set_option linter.unusedVariables false
def xr (a b : Nat) : Nat := Nat.xor (a % 4294967296) (b % 4294967296)
def an (a b : Nat) : Nat := Nat.land (a % 4294967296) (b % 4294967296)
def orr (a b : Nat) : Nat := Nat.lor (a % 4294967296) (b % 4294967296)
def nt (a : Nat) : Nat := 4294967295 - a % 4294967296
def ad (a b : Nat) : Nat := (a + b) % 4294967296
def sl (a m : Nat) : Nat := a * 2 ^ m % 4294967296
def sr (a m : Nat) : Nat := a / 2 ^ m
def ofI (k : IntKind) : List Nat → List V
  | [] => []
  | n :: r => .int k (n : Int) :: ofI k r
theorem ofI_len (k : IntKind) (l : List Nat) : (ofI k l).length = l.length := by
  induction l with
  | nil => rfl
  | cons a r ih => simp only [ofI, List.length_cons, ih]
theorem ofI_app (k : IntKind) (a b : List Nat) : ofI k (a ++ b) = ofI k a ++ ofI k b := by
  induction a with
  | nil => rfl
  | cons x r ih => simp only [List.cons_append, ofI, ih]
theorem ofI_get (k : IntKind) (l : List Nat) (i : Nat) (h : i < l.length) : (ofI k l)[i]? = some (.int k (l.getD i 0 : Nat)) := by
  induction l generalizing i with
  | nil => cases h
  | cons a r ih =>
    cases i with
    | zero => rfl
    | succ i => simp only [ofI, List.getElem?_cons_succ, List.getD_cons_succ]; exact ih i (by simpa using h)
theorem ofI_take (k : IntKind) (l : List Nat) (n : Nat) : (ofI k l).take n = ofI k (l.take n) := by
  induction l generalizing n with
  | nil => simp [ofI]
  | cons a r ih => cases n with
    | zero => rfl
    | succ n => simp only [ofI, List.take_succ_cons, ih]
theorem ofI_drop (k : IntKind) (l : List Nat) (n : Nat) : (ofI k l).drop n = ofI k (l.drop n) := by
  induction l generalizing n with
  | nil => simp [ofI]
  | cons a r ih => cases n with
    | zero => rfl
    | succ n => simp only [ofI, List.drop_succ_cons, ih]
theorem takeN_of : ∀ (n : Nat) (vs : List V), n ≤ vs.length → takeN n vs = some (vs.take n) := by
  intro n
  induction n with
  | zero => intro vs _; rfl
  | succ n ih =>
    intro vs h
    cases vs with
    | nil => simp at h
    | cons v r => simp only [takeN, List.take_succ_cons, ih r (by simpa using h)]
theorem readN_of (vs : List V) (off n : Nat) (h : off + n ≤ vs.length) : readN vs off n = some ((vs.drop off).take n) := by
  unfold readN; exact takeN_of _ _ (by rw [List.length_drop]; omega)
theorem writeN_eq : ∀ (vs : List V) (off : Nat) (l : List V), off ≤ vs.length → writeN vs off l = vs.take off ++ l ++ vs.drop (off + l.length) := by
  intro vs off
  induction off generalizing vs with
  | zero => intro l _; rw [w_zero]; simp
  | succ o ih =>
    intro l h
    cases vs with
    | nil => simp at h
    | cons v r => rw [w_succ, ih r l (by simpa using h)]; simp [Nat.add_right_comm]
def Kp (h h' : H) : Prop := h.next ≤ h'.next ∧ ∀ i, i < h.next → h'.get i = h.get i
theorem Kp.refl (h : H) : Kp h h := ⟨Nat.le_refl _, fun _ _ => rfl⟩
theorem Kp.trans {a b c : H} (h : Kp a b) (h' : Kp b c) : Kp a c := ⟨Nat.le_trans h.1 h'.1, fun i hi => by rw [h'.2 i (Nat.lt_of_lt_of_le hi h.1), h.2 i hi]⟩
theorem Kp.new (h : H) (b : Blk) : Kp h (h.new b) := ⟨by rw [H.next_new]; omega, fun i hi => h_new_ne h b (by omega)⟩
theorem Kp.put {h h' : H} (k : Kp h h') {i : Nat} (b : Blk) (hi : h.next ≤ i) : Kp h (h'.put i b) := ⟨k.1, fun j hj => by rw [h_put_ne _ _ (by omega)]; exact k.2 j hj⟩
theorem Kp.del {h h' : H} (k : Kp h h') {i : Nat} (hi : h.next ≤ i) : Kp h (h'.del i) := ⟨k.1, fun j hj => by rw [h_del_ne _ (by omega)]; exact k.2 j hj⟩
def Kq (p : Nat) (h h' : H) : Prop := h.next ≤ h'.next ∧ ∀ i, i < h.next → i ≠ p → h'.get i = h.get i
theorem Kq.refl (p : Nat) (h : H) : Kq p h h := ⟨Nat.le_refl _, fun _ _ _ => rfl⟩
theorem Kq.trans {p : Nat} {a b c : H} (h : Kq p a b) (h' : Kq p b c) : Kq p a c := ⟨Nat.le_trans h.1 h'.1, fun i hi hp => by rw [h'.2 i (Nat.lt_of_lt_of_le hi h.1) hp, h.2 i hi hp]⟩
theorem Kp.q {p : Nat} {a b : H} (h : Kp a b) : Kq p a b := ⟨h.1, fun i hi _ => h.2 i hi⟩
theorem Kq.put {p : Nat} {h h' : H} (k : Kq p h h') {i : Nat} (b : Blk) (hi : h.next ≤ i ∨ i = p) : Kq p h (h'.put i b) := ⟨k.1, fun j hj hp => by rw [h_put_ne _ _ (by omega)]; exact k.2 j hj hp⟩
theorem Kq.new {p : Nat} {h h' : H} (k : Kq p h h') (b : Blk) : Kq p h (h'.new b) := k.trans (Kp.new _ _).q
theorem Kq.del {p : Nat} {h h' : H} (k : Kq p h h') {i : Nat} (hi : h.next ≤ i) : Kq p h (h'.del i) := ⟨k.1, fun j hj hp => by rw [h_del_ne _ (by omega)]; exact k.2 j hj hp⟩
def rl (a s : Nat) : Nat := orr (sl a s) (sr a (32 - s))
def trn (a i j k : Nat) : Nat := xr (xr (rl a (32 - i)) (rl a (32 - j))) (rl a (32 - k))
theorem loop_go {f : St → Option (Ex × St)} (I : Nat → Tr V → H → Prop) (L : Nat) (ex : Ex) (hex : ex ≠ .normal) (post : Tr V → H → Prop)
    (step : ∀ i T h, i < L → I i T h → ∃ T' h', f ⟨T, [], h⟩ = some (.normal, ⟨T', [], h'⟩) ∧ I (i + 1) T' h')
    (stop : ∀ T h, I L T h → ∃ T' h', f ⟨T, [], h⟩ = some (ex, ⟨T', [], h'⟩) ∧ post T' h') :
    ∀ (k i : Nat), i + k = L → ∀ (g : Nat), k < g → ∀ (T : Tr V) (h : H), I i T h → ∃ T' h', loopN f g ⟨T, [], h⟩ = some (ex, ⟨T', [], h'⟩) ∧ post T' h' := by
  intro k
  induction k with
  | zero =>
    intro i hi g hg T h hI
    obtain ⟨g, rfl⟩ : ∃ j, g = j + 1 := ⟨g - 1, by omega⟩
    obtain rfl : i = L := by omega
    obtain ⟨T', h', r1, r2⟩ := stop T h hI
    refine ⟨T', h', ?_, r2⟩
    rw [l_succ, r1]
    cases ex with
    | normal => exact absurd rfl hex
    | exit j => rfl
    | ret => rfl
  | succ k ih =>
    intro i hi g hg T h hI
    obtain ⟨g, rfl⟩ : ∃ j, g = j + 1 := ⟨g - 1, by omega⟩
    obtain ⟨T1, h1, r1, r2⟩ := step i T h (by omega) hI
    obtain ⟨T', h', r3, r4⟩ := ih (i + 1) (by omega) g (by omega) T1 h1 r2
    exact ⟨T', h', by rw [l_succ, r1, l_normal]; exact r3, r4⟩
def Eqx (q : Nat) (h h' : H) : Prop := h'.next = h.next ∧ ∀ j, j ≠ q → h'.get j = h.get j
theorem Eqx.refl (q : Nat) (h : H) : Eqx q h h := ⟨rfl, fun _ _ => rfl⟩
theorem Eqx.put {q : Nat} {h h' : H} (k : Eqx q h h') (b : Blk) : Eqx q h (h'.put q b) := ⟨k.1, fun j hj => by rw [h_put_ne _ _ (Ne.symm hj)]; exact k.2 j hj⟩
theorem Eqx.trans {q : Nat} {a b c : H} (x : Eqx q a b) (y : Eqx q b c) : Eqx q a c := ⟨y.1.trans x.1, fun j hj => (y.2 j hj).trans (x.2 j hj)⟩
noncomputable def slcB (b : Option Blk) (n esz i off : Nat) (lo hi : Option V) (h : H) : Option (V × H) := match b with
  | some (.cells vs _) => bif Nat.ble (off + n * esz) vs.length then
        match bnd hi n n with
        | some b => match bnd lo 0 b with
          | some l => some (.slice (some (i, off + l * esz)) (b - l) (some (n - l)) esz, h)
          | none => none
        | none => none
      else none
  | _ => none
@[congr] theorem slcB_congr {b b' : Option Blk} {n esz i off : Nat} {lo hi : Option V} {h : H} (e : b = b') : slcB b n esz i off lo hi h = slcB b' n esz i off lo hi h := by rw [e]
noncomputable def slcAE (n esz : Nat) (x : V) (lo hi : Option V) (h : H) : Option (V × H) := match x with
  | .ptr (some (i, off)) => slcB (h.get i) n esz i off lo hi h
  | _ => none
theorem x_slcA (Q : Orc) (T : Tr V) (h : H) (n esz : Nat) (x : O) (lo hi : Option O) : Eng.step (.slcA n esz x lo hi none) Q T h = slcAE n esz (evO T x) (evM T lo) (evM T hi) h := by
  show o_slcA n esz x lo hi none Q T h = _
  unfold o_slcA slcAE slcB evM
  cases evO T x <;> try rfl
  rename_i a
  cases a with
  | none => rfl
  | some io =>
    obtain ⟨i, off⟩ := io
    simp only
    cases h.get i with
    | none => rfl
    | some b => cases b <;> rfl
theorem x_slcAE (n esz i off : Nat) (lo hi : Option V) (h : H) : slcAE n esz (.ptr (some (i, off))) lo hi h = slcB (h.get i) n esz i off lo hi h := _root_.id rfl
theorem x_slcB (vs : List V) (m : Md) (n esz i off l b : Nat) (lo hi : Option V) (h : H) (hv : off + n * esz ≤ vs.length) (h1 : bnd hi n n = some b) (h2 : bnd lo 0 b = some l) :
    slcB (some (.cells vs m)) n esz i off lo hi h = some (.slice (some (i, off + l * esz)) (b - l) (some (n - l)) esz, h) := by
  unfold slcB
  simp only [cond_ble, if_pos hv, h1, h2]
theorem x_M1 (T : Tr V) (o : O) : evM T (some o) = some (evO T o) := _root_.id rfl
theorem x_M0 (T : Tr V) : evM T none = none := _root_.id rfl
theorem x_bnd0 (d m : Nat) : bnd none d m = some d := _root_.id rfl
theorem x_bnd (k : IntKind) (n d m : Nat) (h : n ≤ m) : bnd (some (.int k (n : Int))) d m = some n := by
  show (bif Nat.ble n m then some n else none) = _
  rw [cond_ble, if_pos h]
theorem w64n {n : Nat} (h : n < 9223372036854775808) : wr .i64 (n : Int) = (n : Int) := wr_i64 (by omega)
theorem idxn {i L : Nat} (h : i < L) : idx (i : Int) L = some i := by
  show (bif Nat.blt i L then some i else none) = _
  rw [cond_blt, if_pos h]
def cubes : List Nat := [1116352408, 1899447441, 3049323471, 3921009573, 961987163, 1508970993, 2453635748, 2870763221, 3624381080, 310598401, 607225278, 1426881987, 1925078388, 2162078206, 2614888103, 3248222580, 3835390401, 4022224774, 264347078, 604807628, 770255983, 1249150122, 1555081692, 1996064986, 2554220882, 2821834349, 2952996808, 3210313671, 3336571891, 3584528711, 113926993, 338241895, 666307205, 773529912, 1294757372, 1396182291, 1695183700, 1986661051, 2177026350, 2456956037, 2730485921, 2820302411, 3259730800, 3345764771, 3516065817, 3600352804, 4094571909, 275423344, 430227734, 506948616, 659060556, 883997877, 958139571, 1322822218, 1537002063, 1747873779, 1955562222, 2024104815, 2227730452, 2361852424, 2428436474, 2756734187, 3204031479, 3329325298]
def squaresL : List Nat := [1779033703, 3144134277, 1013904242, 2773480762, 1359893119, 2600822924, 528734635, 1541459225]
def sumC (st blk : List Nat) (len : Nat) : List V := ofI .u32 st ++ (ofI .u8 blk ++ [.int .u64 (len : Int), .bool true])
def wnx (blk ws : List Nat) (i : Nat) : Nat :=
  if i < 16 then orr (orr (orr (sl (blk.getD (4 * i) 0 % 4294967296) 24) (sl (blk.getD (4 * i + 1) 0 % 4294967296) 16)) (sl (blk.getD (4 * i + 2) 0 % 4294967296) 8)) (blk.getD (4 * i + 3) 0 % 4294967296)
  else ad (ad (ad (ws.getD (i - 16) 0) (xr (xr (rl (ws.getD (i - 15) 0) 25) (rl (ws.getD (i - 15) 0) 14)) (sr (ws.getD (i - 15) 0) 3))) (ws.getD (i - 7) 0))
    (xr (xr (rl (ws.getD (i - 2) 0) 15) (rl (ws.getD (i - 2) 0) 13)) (sr (ws.getD (i - 2) 0) 10))
def wsN (blk : List Nat) : Nat → List Nat
  | 0 => []
  | n + 1 => wsN blk n ++ [wnx blk (wsN blk n) n]
structure S8 where
  a : Nat
  b : Nat
  c : Nat
  d : Nat
  e : Nat
  f : Nat
  g : Nat
  h : Nat
def rnd (s : S8) (k w : Nat) : S8 :=
  ⟨ad (ad (ad (ad (ad s.h (trn s.e 6 11 25)) (xr (an s.e s.f) (an (nt s.e) s.g))) k) w) (ad (trn s.a 2 13 22) (xr (xr (an s.a s.b) (an s.a s.c)) (an s.b s.c))), s.a, s.b, s.c,
   ad s.d (ad (ad (ad (ad s.h (trn s.e 6 11 25)) (xr (an s.e s.f) (an (nt s.e) s.g))) k) w), s.e, s.f, s.g⟩
def rnds (ws : List Nat) (s : S8) : Nat → S8
  | 0 => s
  | i + 1 => rnd (rnds ws s i) (cubes.getD i 0) (ws.getD i 0)
def updN (st vs : List Nat) : Nat → List Nat
  | 0 => st
  | i + 1 => (updN st vs i).set i (ad ((updN st vs i).getD i 0) (vs.getD i 0))
def s8of (st : List Nat) : S8 := ⟨st.getD 0 0, st.getD 1 0, st.getD 2 0, st.getD 3 0, st.getD 4 0, st.getD 5 0, st.getD 6 0, st.getD 7 0⟩
def s8l (s : S8) : List Nat := [s.a, s.b, s.c, s.d, s.e, s.f, s.g, s.h]
def mixV (st blk : List Nat) : List Nat := updN st (s8l (rnds (wsN blk 64) (s8of st) 64)) 8
theorem writeN_set (vs : List V) (i : Nat) (v : V) (h : i < vs.length) : writeN vs i [v] = vs.set i v := by
  rw [writeN_eq _ _ _ (by omega), List.set_eq_take_append_cons_drop, if_pos h]
  simp
theorem ofI_set (k : IntKind) (l : List Nat) (i n : Nat) : (ofI k l).set i (.int k (n : Int)) = ofI k (l.set i n) := by
  induction l generalizing i with
  | nil => simp [ofI]
  | cons a r ih => cases i with
    | zero => rfl
    | succ i => simp only [ofI, List.set_cons_succ, ih]
theorem vbeq_int (k : IntKind) (n : Int) : V.beq (.int k n) (.int k n) = true := by
  unfold V.beq; rw [kindEq_self, ieq_dec]; simp
structure Sm where
  st : List Nat
  blk : List Nat
  len : Nat
def eat1 (s : Sm) (b : Nat) : Sm :=
  ⟨if (s.len + 1) % 18446744073709551616 % 64 = 0 then mixV s.st (s.blk.set (s.len % 64) b) else s.st, s.blk.set (s.len % 64) b, (s.len + 1) % 18446744073709551616⟩
def absorb (s : Sm) (l : List Nat) : Sm := l.foldl eat1 s
def Src (h0 : H) (p a0 : Nat) (a : Option (Nat × Nat)) (e : Nat) (l : List Nat) : Prop :=
  l = [] ∨ ∃ bi off vs m, a = some (bi, off) ∧ e = 1 ∧ bi ≠ p ∧ bi < a0 ∧ h0.get bi = some (.cells vs m) ∧ off + l.length ≤ vs.length ∧ (vs.drop off).take l.length = ofI .u8 l
theorem Src.drop {h0 : H} {p a0 : Nat} {a : Option (Nat × Nat)} {e : Nat} {l : List Nat} (s : Src h0 p a0 a e l) (m : Nat) : Src h0 p a0 (upA a m) e (l.drop m) := by
  rcases s with rfl | ⟨bi, off, vs, md, rfl, he, h1, h2, h3, h4, h5⟩
  · left; simp
  · by_cases hm : m < l.length
    · right
      refine ⟨bi, off + m, vs, md, rfl, he, h1, h2, h3, by rw [List.length_drop]; omega, ?_⟩
      rw [List.length_drop, ← List.drop_drop, ← List.drop_take, h5, ofI_drop]
    · left; exact List.drop_eq_nil_of_le (by omega)
noncomputable def copyE (esz : Nat) (d : V) (r : Option (Nat × List V)) (h : H) : Option (V × H) := match d with
  | .slice base dl _ _ => match r with
    | some (n, l) => match (bif Nat.ble n dl then n else dl) with
      | 0 => some (.int .i64 (.ofNat 0), h)
      | m + 1 => match base with
        | some (i, off) => match copyC h i off (l.take ((m + 1) * esz)) with | some h => some (.int .i64 (.ofNat (m + 1)), h) | none => none
        | none => none
    | none => none
  | _ => none
theorem x_copy (Q : Orc) (T : Tr V) (h : H) (esz : Nat) (d s : O) : Eng.step (.copy esz d s) Q T h = copyE esz (evO T d) (srcCells h esz (evO T s)) h := by
  show o_copy esz d s Q T h = _
  unfold o_copy copyE
  cases evO T d <;> rfl
theorem plain_ofI (k : IntKind) (l : List Nat) : (ofI k l).all plainV = true := by
  induction l with
  | nil => rfl
  | cons a r ih => simp only [ofI, List.all_cons, ih, Bool.and_true]; rfl
theorem copy_bytes (h : H) (i off dl : Nat) (c : Option Nat) (l : List Nat) (vs : List V) (md : Md) (hmd : isRo md = false) (hg : h.get i = some (.cells vs md)) (hl : l ≠ []) (hd : 0 < dl) (hv : off + min l.length dl ≤ vs.length) :
    copyE 1 (.slice (some (i, off)) dl c 1) (some (l.length, ofI .u8 l)) h = some (.int .i64 ((min l.length dl : Nat) : Int), h.put i (.cells (writeN vs off (ofI .u8 (l.take (min l.length dl)))) md)) := by
  have hp : 0 < l.length := List.length_pos_iff.2 hl
  have hm : (bif Nat.ble l.length dl then l.length else dl) = min l.length dl := by
    rw [cond_ble]
    split
    · rw [Nat.min_eq_left (by assumption)]
    · rw [Nat.min_eq_right (by omega)]
  unfold copyE
  simp only [hm]
  obtain ⟨m, em⟩ : ∃ m, min l.length dl = m + 1 := ⟨min l.length dl - 1, by omega⟩
  have hlen : (ofI .u8 (l.take (m + 1))).length = m + 1 := by rw [ofI_len, List.length_take]; omega
  rw [em] at hv ⊢
  simp only [Nat.mul_one, ofI_take]
  unfold copyC storeCells
  rw [plain_ofI, hg]
  simp only [_root_.cond_true, hlen, cond_ble]
  cases md with
  | ro => cases hmd
  | rw => simp only [if_pos hv]; rfl
  | sh => simp only [if_pos hv]; rfl
theorem slcS_lo (a : Option (Nat × Nat)) (n m : Nat) (c : Option Nat) (e : Nat) (k : IntKind) (hm : m ≤ n) (he : e = 1) : slcV 1 (some (.int k (m : Int))) none none (.slice a n c e) = some (.slice (upA a m) (n - m) (subC c m) 1) := by
  subst he
  unfold slcV
  simp only [Nat.beq_refl, Bool.true_or, _root_.cond_true, x_bnd0, x_bnd _ _ _ _ hm, Nat.mul_one]
theorem x_slcS (Q : Orc) (T : Tr V) (h : H) (esz : Nat) (x : O) (lo hi mx : Option O) : Eng.step (.slcS esz x lo hi mx) Q T h = same h (slcV esz (evM T lo) (evM T hi) (evM T mx) (evO T x)) := _root_.id rfl
theorem s_callVy (Q : Orc) (xs : List V) (l : Nat) (h : H) : callV Q xs (.yld l) h = Q (.yld l) xs h := _root_.id rfl
theorem u64n (n : Nat) (h : n < 18446744073709551616) : wr .u64 (n : Int) = (n : Int) := wr_u64 (by omega)
def padSz (len : Nat) : Nat := if 64 - len % 64 < 9 then 128 - len % 64 else 64 - len % 64
def padN (len : Nat) : Nat → List Nat
  | 0 => 128 :: List.replicate (padSz len - 1) 0
  | i + 1 => (padN len i).set (padSz len - 1 - i) (len * 8 % 18446744073709551616 / 2 ^ (8 * i) % 256)
def padV (len : Nat) : List Nat := padN len 8
theorem w8n (n : Nat) : wr .u8 (n : Int) = ((n % 256 : Nat) : Int) := by
  have : wr .u8 (n : Int) = asK .u8 (n % 256) := rfl
  rw [this]; unfold asK; rw [cond_blt, if_pos (by simp only [half]; omega)]; rfl
def be4 (w : Nat) : List Nat := [sr w 24 % 256, sr w 16 % 256, sr w 8 % 256, w % 256]
def outN (st : List Nat) : Nat → List Nat
  | 0 => List.replicate 32 0
  | i + 1 => (outN st i).take (4 * i) ++ be4 (st.getD i 0) ++ (outN st i).drop (4 * i + 4)
def hashV (st : List Nat) : List Nat := outN st 8
def endV (s : Sm) : List Nat := hashV (absorb s (padV s.len)).st
def initS : Sm := ⟨squaresL, List.replicate 64 0, 0⟩
theorem writeN_all (z l : List V) (h : z.length = l.length) : writeN z 0 l = l := by rw [w_zero, List.drop_eq_nil_of_le (by omega), List.append_nil]
def SrcH (h : H) (a : Option (Nat × Nat)) (e : Nat) (l : List Nat) : Prop :=
  l = [] ∨ ∃ bi off vs m, a = some (bi, off) ∧ e = 1 ∧ bi < h.next ∧ h.get bi = some (.cells vs m) ∧ off + l.length ≤ vs.length ∧ (vs.drop off).take l.length = ofI .u8 l
theorem SrcH.src {h h' : H} {a : Option (Nat × Nat)} {e : Nat} {l : List Nat} (s : SrcH h a e l) (k : Kp h h') (p : Nat) (hp : h.next ≤ p) : Src h' p h'.next a e l := by
  rcases s with h | ⟨bi, off, vs, m, h1, h2, h3, h4, h5, h6⟩
  · exact .inl h
  · exact .inr ⟨bi, off, vs, m, h1, h2, by omega, Nat.lt_of_lt_of_le h3 k.1, by rw [k.2 _ h3, h4], h5, h6⟩
theorem SrcH.mono {h h' : H} {a : Option (Nat × Nat)} {e : Nat} {l : List Nat} (s : SrcH h a e l) (k : Kp h h') : SrcH h' a e l := by
  rcases s with h | ⟨bi, off, vs, m, h1, h2, h3, h4, h5, h6⟩
  · exact .inl h
  · exact .inr ⟨bi, off, vs, m, h1, h2, Nat.lt_of_lt_of_le h3 k.1, by rw [k.2 _ h3, h4], h5, h6⟩
theorem z32e : ofI .u8 (List.replicate 32 0) = [.int .u8 0, .int .u8 0, .int .u8 0, .int .u8 0, .int .u8 0, .int .u8 0, .int .u8 0, .int .u8 0, .int .u8 0, .int .u8 0, .int .u8 0, .int .u8 0, .int .u8 0, .int .u8 0, .int .u8 0, .int .u8 0, .int .u8 0, .int .u8 0, .int .u8 0, .int .u8 0, .int .u8 0, .int .u8 0, .int .u8 0, .int .u8 0, .int .u8 0, .int .u8 0, .int .u8 0, .int .u8 0, .int .u8 0, .int .u8 0, .int .u8 0, .int .u8 0] := rfl
noncomputable def srcE (b : Option Blk) (off len esz : Nat) : Option (Nat × List V) := match b with
  | some (.cells vs _) => match readN vs off (len * esz) with | some l => some (len, l) | none => none
  | _ => none
@[congr] theorem srcE_congr {b b' : Option Blk} {off len esz : Nat} (e : b = b') : srcE b off len esz = srcE b' off len esz := by rw [e]
theorem m_src (h : H) (esz i off len : Nat) (c : Option Nat) (e : Nat) : srcCells h esz (.slice (some (i, off)) (len + 1) c e) = srcE (h.get i) off (len + 1) esz := by
  unfold srcCells srcE cellsAt
  simp only
  cases h.get i with
  | none => rfl
  | some b => cases b <;> rfl
theorem m_src0 (h : H) (esz : Nat) (a : Option (Nat × Nat)) (c : Option Nat) (e : Nat) : srcCells h esz (.slice a 0 c e) = some (0, []) := by
  unfold srcCells
  cases a <;> rfl
theorem wr1I (k : IntKind) (a : List Nat) (off v : Nat) (h : off < a.length) : writeN (ofI k a) off [.int k (v : Int)] = ofI k (a.set off v) := by
  rw [writeN_set _ _ _ (by rw [ofI_len]; exact h), ofI_set]
theorem st32 (h : H) (i o : Nat) (l : List Nat) (hl : l.length = 32) : storeV h 32 (.ptr (some (i, o))) (.agg (ofI .u8 l)) = storeE (h.get i) h i o (ofI .u8 l) := m_storeA h 32 i o _ (by rw [ofI_len, hl, plain_ofI]; rfl)
theorem wrAll (k : IntKind) (z b : List Nat) (h : z.length = b.length) : writeN (ofI k z) 0 (ofI k b) = ofI k b := writeN_all _ _ (by rw [ofI_len, ofI_len, h])
theorem take_all (l : List Nat) (n : Nat) (h : l.length ≤ n) : l.take n = l := List.take_of_length_le h
noncomputable def appF (b : Option Blk) (h : H) (off sl : Nat) (n : Nat) (new : List V) : Option (V × H) := match b with
  | some (.cells vs m) => match readN vs off (sl * 1) with
    | some old => some (.slice (some (h.next, 0)) (sl + n) none 1, h.new (.cells (old ++ new) .rw))
    | none => none
  | _ => none
@[congr] theorem appF_congr {b b' : Option Blk} {h : H} {off sl n : Nat} {new : List V} (e : b = b') : appF b h off sl n new = appF b' h off sl n new := by rw [e]
theorem s_append (Q : Orc) (T : Tr V) (h : H) (esz bytes : Nat) (s x : O) : Eng.step (.append esz bytes s x) Q T h = appendC h esz bytes (evO T s) (srcCells h esz (evO T x)) := _root_.id rfl
noncomputable def appU (b : Option Blk) (h : H) (i sl : Nat) (n : Nat) (new : List V) : Option (V × H) := match b with
  | some (.cells vs m) => match m with
    | .ro => none
    | m => match readN vs 0 (sl * 1) with
      | some old => some (.slice (some (h.next, 0)) (sl + n) none 1, (h.del i).new (.cells (old ++ new) .sh))
      | none => none
  | _ => none
@[congr] theorem appU_congr {b b' : Option Blk} {h : H} {i sl n : Nat} {new : List V} (e : b = b') : appU b h i sl n new = appU b' h i sl n new := by rw [e]
theorem appU_of (h : H) (i sl n : Nat) (k : IntKind) (l : List Nat) (hs : sl + (n + 1) ≤ 35184372088832) : appendC h 1 1 (.slice (some (i, 0)) sl none 1) (some (n + 1, ofI k l)) = appU (h.get i) h i sl (n + 1) (ofI k l) := by
  unfold appendC appU
  simp only
  have r : (roomy (sl + (n + 1)) 1 && (Nat.beq 1 1 || (some (i, 0) : Option (Nat × Nat)).isNone) && (ofI k l).all plainV) = true := by
    rw [plain_ofI]; simp [roomy]; omega
  have f : fullC none (sl + (n + 1)) = false := rfl
  rw [r]
  simp only [_root_.cond_true]
  cases h.get i with
  | none => rfl
  | some b =>
    cases b with
    | cells vs m => simp only [f]; cases m <;> rfl
    | loop => rfl
    | defers => rfl
theorem appUI (k : IntKind) (l new : List Nat) (m : Md) (hm : isRo m = false) (h : H) (i sl n : Nat) (hl : sl ≤ l.length) : appU (some (.cells (ofI k l) m)) h i sl n (ofI k new) = some (.slice (some (h.next, 0)) (sl + n) none 1, (h.del i).new (.cells (ofI k (l.take sl ++ new)) .sh)) := by
  have r := readN_of (ofI k l) 0 sl (by rw [ofI_len]; omega)
  unfold appU
  cases m with
  | ro => cases hm
  | rw => simp only [Nat.mul_one, r, List.drop_zero, ofI_take, ofI_app]
  | sh => simp only [Nat.mul_one, r, List.drop_zero, ofI_take, ofI_app]
theorem app0 (h : H) (n e : Nat) (k : IntKind) (l : List Nat) (c : Option Nat) (hs : n + 1 ≤ 35184372088832) : appendC h 1 1 (.slice none 0 c e) (some (n + 1, ofI k l)) = some (.slice (some (h.next, 0)) (n + 1) none 1, h.new (.cells (ofI k l) .rw)) := by
  unfold appendC
  simp only
  have r : (roomy (0 + (n + 1)) 1 && (Nat.beq e 1 || (none : Option (Nat × Nat)).isNone) && (ofI k l).all plainV) = true := by
    rw [plain_ofI]; simp [roomy]; omega
  rw [r]
  simp only [_root_.cond_true, Nat.zero_add]
theorem appN (h : H) (b : Option (Nat × Nat)) (n : Nat) (c : Option Nat) (e : Nat) (l : List V) : appendC h 1 1 (.slice b n c e) (some (0, l)) = some (.slice b n c e, h) := by
  unfold appendC; rfl
theorem slcB_nn (vs : List V) (m : Md) (n i off : Nat) (h : H) (hv : off + n ≤ vs.length) : slcB (some (.cells vs m)) n 1 i off none none h = some (.slice (some (i, off)) n (some n) 1, h) := by
  rw [x_slcB vs m n 1 i off 0 n none none h (by omega) rfl rfl]; simp
theorem slcV_hi (n b : Nat) (c : Option Nat) (i off : Nat) (k : IntKind) (hb : b ≤ n) (hc : ∀ x, c = some x → n ≤ x) : slcV 1 none (some (.int k (b : Int))) none (.slice (some (i, off)) n c 1) = some (.slice (some (i, off)) b c 1) := by
  have : b ≤ c.getD n := by cases c with | none => exact hb | some x => exact Nat.le_trans hb (hc x rfl)
  unfold slcV
  simp only [Nat.beq_refl, Bool.true_or, _root_.cond_true, x_bnd _ _ _ _ this, x_bnd0]
  cases c <;> simp [upA, subC]
theorem slcV_hiU (n b : Nat) (i off : Nat) (k : IntKind) (hb : b ≤ n) : slcV 1 none (some (.int k (b : Int))) none (.slice (some (i, off)) n none 1) = some (.slice (some (i, off)) b none 1) := slcV_hi n b none i off k hb (fun _ h => by cases h)
def dbE (r : Option (List V)) (k : List V → Option Ds) : Option Ds := match r with
  | some l => k l
  | none => none
@[congr] theorem dbE_congr {r r' : Option (List V)} {k : List V → Option Ds} (h : r = r') : dbE r k = dbE r' k := by rw [h]
noncomputable def nsE (b : Option Blk) (off len : Nat) : Option V := match b with
  | some (.cells vs _) => match readN vs off len with
    | some l => strO (bytesOf l)
    | none => none
  | _ => none
@[congr] theorem nsE_congr {off len : Nat} {b b' : Option Blk} (e : b = b') : nsE b off len = nsE b' off len := by rw [e]
theorem ns_b2s (Q : Orc) (T : Tr V) (h : H) (x : O) : Eng.step (.b2s x) Q T h = same h (b2sV h (evO T x)) := _root_.id rfl
theorem nx_bs1 (h : H) (i off n : Nat) (c : Option Nat) (e : Nat) : b2sV h (.slice (some (i, off)) (n + 1) c e) = nsE (h.get i) off (n + 1) := by
  unfold b2sV nsE cellsAt
  simp only
  cases h.get i with
  | none => rfl
  | some b => cases b <;> rfl
theorem bytesOf_I : ∀ (l : List Nat), (∀ x ∈ l, x < 256) → bytesOf (ofI .u8 l) = some l := by
  intro l
  induction l with
  | nil => intro _; rfl
  | cons a r ih =>
    intro h
    show (match bytesOf (ofI .u8 r) with | some l => some (a % 256 :: l) | none => none) = _
    rw [ih (fun x hx => h x (List.mem_cons_of_mem _ hx)), Nat.mod_eq_of_lt (h a (List.mem_cons_self ..))]
def byt (l : List Nat) : Bool := l.all (fun x => decide (x < 256))
theorem byt_iff {l : List Nat} : byt l = true ↔ ∀ x ∈ l, x < 256 := by simp [byt]
theorem strEq_dec : ∀ (a b : List Nat), strEq a b = decide (a = b) := by
  intro a
  induction a with
  | nil => intro b; cases b <;> rfl
  | cons x r ih =>
    intro b
    cases b with
    | nil => rfl
    | cons y s =>
      show (bif Nat.beq x y then strEq r s else false) = _
      by_cases h : x = y
      · subst h
        rw [show Nat.beq x x = true from Nat.beq_refl x, ih s]
        simp only [_root_.cond_true, List.cons.injEq, true_and]
      · have hb : Nat.beq x y = false := by
          cases hb : Nat.beq x y with
          | false => rfl
          | true => exact absurd (Nat.eq_of_beq_eq_true hb) h
        rw [hb]
        simp only [_root_.cond_false, List.cons.injEq, h, false_and, decide_false]
theorem vbeq_str (a : List Nat) : V.beq (.str a) (.str a) = true := by unfold V.beq; rw [strEq_dec]; simp
theorem b_seq (e : EqK) (h : H) (a b : List Nat) : binV .eql e h (.str a) (.str b) = some (.bool (decide (a = b))) := by
  rw [← strEq_dec]; rfl
theorem b_sneq (e : EqK) (h : H) (a b : List Nat) : binV .neq e h (.str a) (.str b) = some (.bool (!decide (a = b))) := by
  rw [← strEq_dec]; rfl
def aliveS : List V → Option V
  | [] => some (.bool true)
  | _ => none
theorem absA_nil {H : Type} (P : Program) (n nx : Nat) : absA (H := H) P n [] [] nx = some ([], [], nx) := rfl
theorem absA_cons {H : Type} {P : Program} {n : Nat} {t : TypeId} {ts : List TypeId} {d : DataW H} {ds : List (DataW H)} {nx n1 n2 : Nat} {vs avs : List V} {bl bl' : List (Nat × List V)} {av : V}
    (h1 : absD P n t d nx = some (vs, bl, n1)) (hv : argV P t vs = av) (h2 : absA P n ts ds n1 = some (avs, bl', n2)) : absA P n (t :: ts) (d :: ds) nx = some (av :: avs, bl ++ bl', n2) := by
  simp only [absA, h1, h2, hv]
theorem argV_slc {P : Program} {t e : TypeId} (h : P.underlying t = some (.slice e)) (v : V) : argV P t [v] = v := by unfold argV; rw [h]
section
variable {H : Type} {enc : TypeId × Value → H} {P : Program} {W : World} {spare : Nat → Bool} {held : Bool} {base : Nat}
def Lay (bl : List (Nat × List V)) (a : Option (Nat × Nat)) (l : List Nat) (lo hi : Nat) : Prop :=
  lo ≤ hi ∧ ((l = [] ∧ ∀ x ∈ bl, lo ≤ x.1 ∧ x.1 < hi) ∨ (a = some (lo, 0) ∧ bl = [(lo, ofI .u8 l)] ∧ lo < hi))
theorem absD_slc' (n : Nat) {t e : TypeId} (ht : P.underlying t = some (.slice e)) (A B : List (DataW H)) (nx : Nat) : absD P (n + 1) t (.slice A B) nx = (match absL (absD P n e) A (nx + 1) with
    | none => none
    | some (vs, bl, n1) => match A.length + B.length with
      | 0 => some ([.slice (some (nx, 0)) 0 none (P.cellsOf e)], [], n1)
      | _ + 1 => some ([.slice (some (nx, 0)) A.length none (P.cellsOf e)], (nx, vs) :: bl, n1)) := by
  unfold absD
  rw [ht]
  rfl
end
theorem mkB_skip : ∀ (bl r : List (Nat × List V)) (i : Nat), (∀ x ∈ bl, x.1 ≠ i) → (mkB (bl ++ r)).get i = (mkB r).get i := by
  intro bl
  induction bl with
  | nil => intro r i _; rfl
  | cons x s ih =>
    intro r i h
    show ((mkB (s ++ r)).set x.1 _).get i = _
    rw [Tr.get_set, if_neg (h x (List.mem_cons_self ..)), ih r i (fun y hy => h y (List.mem_cons_of_mem _ hy))]
theorem mkB_hit (k : Nat) (v : List V) (r : List (Nat × List V)) : (mkB ((k, v) :: r)).get k = some (.cells v .ro) := by
  show ((mkB r).set k _).get k = _
  rw [Tr.get_set, if_pos rfl]
theorem Lay.src {pre bl post : List (Nat × List V)} {a : Option (Nat × Nat)} {l : List Nat} {lo hi nx : Nat} (L : Lay bl a l lo hi) (hp : ∀ x ∈ pre, x.1 < lo) (hn : hi ≤ nx) : SrcH (mkH (pre ++ (bl ++ post)) nx) a 1 l := by
  obtain ⟨hle, h | ⟨ha, hb, hlt⟩⟩ := L
  · exact .inl h.1
  · refine .inr ⟨lo, 0, ofI .u8 l, .ro, ha, rfl, by show lo < nx; omega, ?_, by rw [ofI_len]; omega, by rw [List.drop_zero]; exact List.take_of_length_le (by rw [ofI_len]; exact Nat.le_refl _)⟩
    show (mkB (pre ++ (bl ++ post))).get lo = _
    rw [mkB_skip _ _ _ (fun x hx => Nat.ne_of_lt (hp x hx)), hb]
    exact mkB_hit _ _ _
theorem slcV_hiA (n b : Nat) (a : Option (Nat × Nat)) (k : IntKind) (hb : b ≤ n) : slcV 1 none (some (.int k (b : Int))) none (.slice a n none 1) = some (.slice a b none 1) := by
  unfold slcV
  simp only [Nat.beq_refl, Bool.true_or, _root_.cond_true, Option.getD_none, x_bnd _ _ _ _ hb, x_bnd0]
  cases a <;> simp [upA, subC]
theorem slcV_loA (n m : Nat) (a : Option (Nat × Nat)) (k : IntKind) (hm : m ≤ n) : slcV 1 (some (.int k (m : Int))) none none (.slice a n none 1) = some (.slice (upA a m) (n - m) none 1) := slcS_lo _ _ _ _ _ _ hm rfl
theorem slcV_lhA (n m b : Nat) (a : Option (Nat × Nat)) (k k' : IntKind) (hb : b ≤ n) (hm : m ≤ b) : slcV 1 (some (.int k (m : Int))) (some (.int k' (b : Int))) none (.slice a n none 1) = some (.slice (upA a m) (b - m) none 1) := by
  unfold slcV
  simp only [Nat.beq_refl, Bool.true_or, _root_.cond_true, Option.getD_none, x_bnd _ _ _ _ hb, x_bnd _ _ _ _ hm, Nat.mul_one]
  rfl
theorem SrcH.take {h : H} {a : Option (Nat × Nat)} {e : Nat} {l : List Nat} (s : SrcH h a e l) (n : Nat) : SrcH h a e (l.take n) := by
  rcases s with h | ⟨bi, off, vs, m, h1, h2, h3, h4, h5, h6⟩
  · left; rw [h]; simp
  · right
    refine ⟨bi, off, vs, m, h1, h2, h3, h4, by rw [List.length_take]; omega, ?_⟩
    rw [List.length_take, ← List.take_take, h6, ofI_take]
theorem SrcH.drop {h : H} {a : Option (Nat × Nat)} {e : Nat} {l : List Nat} (s : SrcH h a e l) (n : Nat) : SrcH h (upA a n) e (l.drop n) := by
  rcases s with h | ⟨bi, off, vs, m, h1, h2, h3, h4, h5, h6⟩
  · left; rw [h]; simp
  · by_cases hn : n < l.length
    · right
      refine ⟨bi, off + n, vs, m, by rw [h1]; rfl, h2, h3, h4, by rw [List.length_drop]; omega, ?_⟩
      rw [List.length_drop, ← List.drop_drop, ← List.drop_take, h6, ofI_drop]
    · left; exact List.drop_eq_nil_of_le (by omega)
def SumAt (h : H) (p : Nat) (s : Sm) : Prop := p < h.next ∧ h.get p = some (.cells (sumC s.st s.blk s.len) .rw)
theorem SumAt.kp {h h' : H} {p : Nat} {s : Sm} (a : SumAt h p s) (k : Kp h h') : SumAt h' p s := ⟨Nat.lt_of_lt_of_le a.1 k.1, by rw [k.2 _ a.1, a.2]⟩
theorem SumAt.kq {h h' : H} {p q : Nat} {s : Sm} (a : SumAt h p s) (k : Kq q h h') (hn : p ≠ q) : SumAt h' p s := ⟨Nat.lt_of_lt_of_le a.1 k.1, by rw [k.2 _ a.1 hn, a.2]⟩
theorem SrcH.src2 {h h' : H} {a : Option (Nat × Nat)} {e : Nat} {l : List Nat} (s : SrcH h a e l) (hle : h.next ≤ h'.next) (k : ∀ i, i < h.next → h'.get i = h.get i) (p : Nat) (hp : h.next ≤ p) : Src h' p h'.next a e l := s.src ⟨hle, k⟩ p hp
theorem SrcH.cellz {h : H} {a : Option (Nat × Nat)} {l : List Nat} {ez : Nat} (s : SrcH h a ez l) (c : Option Nat) : srcCells h 1 (.slice a l.length c ez) = some (l.length, ofI .u8 l) := by
  cases hn : l.length with
  | zero => rw [List.length_eq_zero_iff.1 hn]; exact m_src0 _ _ _ _ _
  | succ n =>
    rcases s with rfl | ⟨bi, off, vs, m, rfl, _, h3, h4, h5, h6⟩
    · cases hn
    · rw [m_src, h4]
      unfold srcE
      rw [hn] at h5 h6
      simp only [Nat.mul_one, readN_of _ _ _ h5, h6]
theorem str_src {h : H} {a : Option (Nat × Nat)} {l : List Nat} {ez : Nat} (src : SrcH h a ez l) (bl : byt l = true) (c : Option Nat) : b2sV h (.slice a l.length c ez) = some (.str l) := by
  rcases src with rfl | ⟨bi, off, vs, m, rfl, rfl, h3, h4, h5, h6⟩
  · cases a <;> rfl
  · cases hn : l.length with
    | zero => rw [List.length_eq_zero_iff.1 hn]; rfl
    | succ n =>
      rw [nx_bs1, h4]
      unfold nsE
      rw [hn] at h5 h6
      simp only [readN_of _ _ _ h5, h6, bytesOf_I _ (byt_iff.1 bl)]
      rfl
theorem b_sadd (e : EqK) (h : H) (a b : List Nat) (hl : a.length + b.length ≤ 35184372088832) : binV .add e h (.str a) (.str b) = some (.str (a ++ b)) := by
  show (bif Nat.ble (a.length + b.length) 35184372088832 then some (V.str (a ++ b)) else none) = _
  rw [cond_ble, if_pos hl]
end Go.Eng
