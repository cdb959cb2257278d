/- What functions of the program come to: own work. -/
import Derived.Test.YtfopajklnakmpaaEngI
import Derived.OpenShut
import Derived.ChangeSame
import Derived.ChangeArms
/-
  ENGINE, part 30a: functions from data to data, as known calls. Own work.
-/
namespace Go.Eng
open Go
/-- a function from data to data -/
def pureX (f : Nat) (s : List V → Option V) : Orc := fun t args h => match t with
  | .fn f' => match Nat.beq f' f with
    | true => (match s args with | some v => some (v, h) | none => none)
    | false => none
  | .yld _ => none
end Go.Eng
/-
  ENGINE, part 33: functions from data to a slice of new cells, as known calls. Own work.
-/
namespace Go.Eng
open Go
end Go.Eng
/-
  ENGINE, part 34: functions of a slice's bytes, as known calls. Own work.
-/
namespace Go.Eng
open Go
def unB : List V → Option (List Nat)
  | [] => some []
  | .int .u8 (.ofNat a) :: r => match unB r with
    | some l => some (a :: l)
    | none => none
  | _ => none
/-- the bytes of a slice -/
noncomputable def rdC (n off : Nat) (b : Option Blk) : Option (List Nat) := match b with
  | some (.cells vs _) => match readN vs off n with
    | some l => unB l
    | none => none
  | _ => none
@[congr] theorem rdC_congr {n off : Nat} {b b' : Option Blk} (e : b = b') : rdC n off b = rdC n off b' := by rw [e]
end Go.Eng
/-
  ENGINE, part 35: calls whose arguments are known by content, and whose answer is a slice of new cells (and data beside it). Own work.
-/
namespace Go.Eng
open Go
end Go.Eng
namespace Go.Eng
open Go
variable {E : Nat → Option Fn} {X : Orc}
set_option linter.unusedSimpArgs false
set_option linter.unusedVariables false
def xr (a b : Nat) : Nat := Nat.xor (a % 4294967296) (b % 4294967296)
def an (a b : Nat) : Nat := Nat.land (a % 4294967296) (b % 4294967296)
def orr (a b : Nat) : Nat := Nat.lor (a % 4294967296) (b % 4294967296)
def nt (a : Nat) : Nat := 4294967295 - a % 4294967296
def ad (a b : Nat) : Nat := (a + b) % 4294967296
def sl (a m : Nat) : Nat := a * 2 ^ m % 4294967296
def sr (a m : Nat) : Nat := a / 2 ^ m
theorem m32 (a : Nat) : a % 4294967296 < 2 ^ 32 := Nat.mod_lt _ (by decide)
theorem xr_lt (a b : Nat) : xr a b < 4294967296 := Nat.xor_lt_two_pow (m32 a) (m32 b)
theorem an_lt (a b : Nat) : an a b < 4294967296 := Nat.and_lt_two_pow _ (m32 b)
theorem orr_lt (a b : Nat) : orr a b < 4294967296 := Nat.or_lt_two_pow (m32 a) (m32 b)
theorem nt_lt (a : Nat) : nt a < 4294967296 := by unfold nt; omega
theorem asK32 (r : Nat) (h : r < 4294967296) : asK .u32 r = (r : Int) := by
  unfold asK
  rw [cond_blt, if_pos (by simpa [half] using h)]
  rfl
theorem b_xor32 (e : EqK) (h : H) (a b : Nat) : binV .xor e h (.int .u32 (a : Int)) (.int .u32 (b : Int)) = some (.int .u32 (xr a b : Nat)) := by
  have : binV .xor e h (.int .u32 (a : Int)) (.int .u32 (b : Int)) = some (.int .u32 (asK .u32 (xr a b))) := rfl
  rw [this, asK32 _ (xr_lt a b)]
theorem b_and32 (e : EqK) (h : H) (a b : Nat) : binV .and e h (.int .u32 (a : Int)) (.int .u32 (b : Int)) = some (.int .u32 (an a b : Nat)) := by
  have : binV .and e h (.int .u32 (a : Int)) (.int .u32 (b : Int)) = some (.int .u32 (asK .u32 (an a b))) := rfl
  rw [this, asK32 _ (an_lt a b)]
theorem b_or32 (e : EqK) (h : H) (a b : Nat) : binV .or e h (.int .u32 (a : Int)) (.int .u32 (b : Int)) = some (.int .u32 (orr a b : Nat)) := by
  have : binV .or e h (.int .u32 (a : Int)) (.int .u32 (b : Int)) = some (.int .u32 (asK .u32 (orr a b))) := rfl
  rw [this, asK32 _ (orr_lt a b)]
theorem u_not32 (a : Nat) : unV .xor (.int .u32 (a : Int)) = some (.int .u32 (nt a : Nat)) := by
  have : unV .xor (.int .u32 (a : Int)) = some (.int .u32 (asK .u32 (nt a))) := rfl
  rw [this, asK32 _ (nt_lt a)]
theorem w32 (n : Nat) : wr .u32 (n : Int) = ((n % 4294967296 : Nat) : Int) := by
  have : wr .u32 (n : Int) = asK .u32 (n % 4294967296) := rfl
  rw [this, asK32 _ (Nat.mod_lt _ (by decide))]
theorem w32ad (a b : Nat) : wr .u32 ((a : Int) + (b : Int)) = (ad a b : Nat) := by
  rw [← Int.natCast_add, w32]; rfl
theorem b_shl32 (e : EqK) (h : H) (a m : Nat) (hm : m ≤ 32) : binV .shl e h (.int .u32 (a : Int)) (.int .u64 (m : Int)) = some (.int .u32 (sl a m : Nat)) := by
  have e1 : binV .shl e h (.int .u32 (a : Int)) (.int .u64 (m : Int)) = some (.int .u32 (wr .u32 (((a * 2 ^ (bif Nat.ble m 32 then m else 32) : Nat)) : Int))) := rfl
  rw [e1, w32, cond_ble, if_pos hm]; rfl
theorem b_shr32 (e : EqK) (h : H) (a m : Nat) (hm : m ≤ 32) : binV .shr e h (.int .u32 (a : Int)) (.int .u64 (m : Int)) = some (.int .u32 (sr a m : Nat)) := by
  have e1 : binV .shr e h (.int .u32 (a : Int)) (.int .u64 (m : Int)) = some (.int .u32 ((a / 2 ^ (bif Nat.ble m 32 then m else 32) : Nat) : Int)) := rfl
  rw [e1, cond_ble, if_pos hm]; rfl
def ofI (k : IntKind) : List Nat → List V
  | [] => []
  | n :: r => .int k (n : Int) :: ofI k r
theorem ofI_len (k : IntKind) (l : List Nat) : (ofI k l).length = l.length := by
  induction l with
  | nil => rfl
  | cons a r ih => simp only [ofI, List.length_cons, ih]
theorem ofI_app (k : IntKind) (a b : List Nat) : ofI k (a ++ b) = ofI k a ++ ofI k b := by
  induction a with
  | nil => rfl
  | cons x r ih => simp only [List.cons_append, ofI, ih]
theorem ofI_get (k : IntKind) (l : List Nat) (i : Nat) (h : i < l.length) : (ofI k l)[i]? = some (.int k (l.getD i 0 : Nat)) := by
  induction l generalizing i with
  | nil => cases h
  | cons a r ih =>
    cases i with
    | zero => rfl
    | succ i => simp only [ofI, List.getElem?_cons_succ, List.getD_cons_succ]; exact ih i (by simpa using h)
theorem ofI_take (k : IntKind) (l : List Nat) (n : Nat) : (ofI k l).take n = ofI k (l.take n) := by
  induction l generalizing n with
  | nil => simp [ofI]
  | cons a r ih => cases n with
    | zero => rfl
    | succ n => simp only [ofI, List.take_succ_cons, ih]
theorem ofI_drop (k : IntKind) (l : List Nat) (n : Nat) : (ofI k l).drop n = ofI k (l.drop n) := by
  induction l generalizing n with
  | nil => simp [ofI]
  | cons a r ih => cases n with
    | zero => rfl
    | succ n => simp only [ofI, List.drop_succ_cons, ih]
theorem takeN_of : ∀ (n : Nat) (vs : List V), n ≤ vs.length → takeN n vs = some (vs.take n) := by
  intro n
  induction n with
  | zero => intro vs _; rfl
  | succ n ih =>
    intro vs h
    cases vs with
    | nil => simp at h
    | cons v r => simp only [takeN, List.take_succ_cons, ih r (by simpa using h)]
theorem readN_of (vs : List V) (off n : Nat) (h : off + n ≤ vs.length) : readN vs off n = some ((vs.drop off).take n) := by
  unfold readN; exact takeN_of _ _ (by rw [List.length_drop]; omega)
theorem writeN_eq : ∀ (vs : List V) (off : Nat) (l : List V), off ≤ vs.length → writeN vs off l = vs.take off ++ l ++ vs.drop (off + l.length) := by
  intro vs off
  induction off generalizing vs with
  | zero => intro l _; rw [w_zero]; simp
  | succ o ih =>
    intro l h
    cases vs with
    | nil => simp at h
    | cons v r => rw [w_succ, ih r l (by simpa using h)]; simp [Nat.add_right_comm]
def Kp (h h' : H) : Prop := h.next ≤ h'.next ∧ ∀ i, i < h.next → h'.get i = h.get i
theorem Kp.refl (h : H) : Kp h h := ⟨Nat.le_refl _, fun _ _ => rfl⟩
theorem Kp.trans {a b c : H} (h : Kp a b) (h' : Kp b c) : Kp a c := ⟨Nat.le_trans h.1 h'.1, fun i hi => by rw [h'.2 i (Nat.lt_of_lt_of_le hi h.1), h.2 i hi]⟩
theorem Kp.new (h : H) (b : Blk) : Kp h (h.new b) := ⟨by rw [H.next_new]; omega, fun i hi => h_new_ne h b (by omega)⟩
theorem Kp.put {h h' : H} (k : Kp h h') {i : Nat} (b : Blk) (hi : h.next ≤ i) : Kp h (h'.put i b) := ⟨k.1, fun j hj => by rw [h_put_ne _ _ (by omega)]; exact k.2 j hj⟩
theorem Kp.del {h h' : H} (k : Kp h h') {i : Nat} (hi : h.next ≤ i) : Kp h (h'.del i) := ⟨k.1, fun j hj => by rw [h_del_ne _ (by omega)]; exact k.2 j hj⟩
def Kq (p : Nat) (h h' : H) : Prop := h.next ≤ h'.next ∧ ∀ i, i < h.next → i ≠ p → h'.get i = h.get i
theorem Kq.refl (p : Nat) (h : H) : Kq p h h := ⟨Nat.le_refl _, fun _ _ _ => rfl⟩
theorem Kq.trans {p : Nat} {a b c : H} (h : Kq p a b) (h' : Kq p b c) : Kq p a c := ⟨Nat.le_trans h.1 h'.1, fun i hi hp => by rw [h'.2 i (Nat.lt_of_lt_of_le hi h.1) hp, h.2 i hi hp]⟩
theorem Kp.q {p : Nat} {a b : H} (h : Kp a b) : Kq p a b := ⟨h.1, fun i hi _ => h.2 i hi⟩
theorem Kq.put {p : Nat} {h h' : H} (k : Kq p h h') {i : Nat} (b : Blk) (hi : h.next ≤ i ∨ i = p) : Kq p h (h'.put i b) := ⟨k.1, fun j hj hp => by rw [h_put_ne _ _ (by omega)]; exact k.2 j hj hp⟩
theorem Kq.new {p : Nat} {h h' : H} (k : Kq p h h') (b : Blk) : Kq p h (h'.new b) := k.trans (Kp.new _ _).q
theorem Kq.del {p : Nat} {h h' : H} (k : Kq p h h') {i : Nat} (hi : h.next ≤ i) : Kq p h (h'.del i) := ⟨k.1, fun j hj hp => by rw [h_del_ne _ (by omega)]; exact k.2 j hj hp⟩
def rl (a s : Nat) : Nat := orr (sl a s) (sr a (32 - s))
def trn (a i j k : Nat) : Nat := xr (xr (rl a (32 - i)) (rl a (32 - j))) (rl a (32 - k))
theorem loop_go {f : St → Option (Ex × St)} (I : Nat → Tr V → H → Prop) (L : Nat) (ex : Ex) (hex : ex ≠ .normal) (post : Tr V → H → Prop)
    (step : ∀ i T h, i < L → I i T h → ∃ T' h', f ⟨T, [], h⟩ = some (.normal, ⟨T', [], h'⟩) ∧ I (i + 1) T' h')
    (stop : ∀ T h, I L T h → ∃ T' h', f ⟨T, [], h⟩ = some (ex, ⟨T', [], h'⟩) ∧ post T' h') :
    ∀ (k i : Nat), i + k = L → ∀ (g : Nat), k < g → ∀ (T : Tr V) (h : H), I i T h → ∃ T' h', loopN f g ⟨T, [], h⟩ = some (ex, ⟨T', [], h'⟩) ∧ post T' h' := by
  intro k
  induction k with
  | zero =>
    intro i hi g hg T h hI
    obtain ⟨g, rfl⟩ : ∃ j, g = j + 1 := ⟨g - 1, by omega⟩
    obtain rfl : i = L := by omega
    obtain ⟨T', h', r1, r2⟩ := stop T h hI
    refine ⟨T', h', ?_, r2⟩
    rw [l_succ, r1]
    cases ex with
    | normal => exact absurd rfl hex
    | exit j => rfl
    | ret => rfl
  | succ k ih =>
    intro i hi g hg T h hI
    obtain ⟨g, rfl⟩ : ∃ j, g = j + 1 := ⟨g - 1, by omega⟩
    obtain ⟨T1, h1, r1, r2⟩ := step i T h (by omega) hI
    obtain ⟨T', h', r3, r4⟩ := ih (i + 1) (by omega) g (by omega) T1 h1 r2
    exact ⟨T', h', by rw [l_succ, r1, l_normal]; exact r3, r4⟩
def Eqx (q : Nat) (h h' : H) : Prop := h'.next = h.next ∧ ∀ j, j ≠ q → h'.get j = h.get j
theorem Eqx.refl (q : Nat) (h : H) : Eqx q h h := ⟨rfl, fun _ _ => rfl⟩
theorem Eqx.put {q : Nat} {h h' : H} (k : Eqx q h h') (b : Blk) : Eqx q h (h'.put q b) := ⟨k.1, fun j hj => by rw [h_put_ne _ _ (Ne.symm hj)]; exact k.2 j hj⟩
theorem Eqx.trans {q : Nat} {a b c : H} (x : Eqx q a b) (y : Eqx q b c) : Eqx q a c := ⟨y.1.trans x.1, fun j hj => (y.2 j hj).trans (x.2 j hj)⟩
noncomputable def slcB (b : Option Blk) (n esz i off : Nat) (lo hi : Option V) (h : H) : Option (V × H) := match b with
  | some (.cells vs _) => bif Nat.ble (off + n * esz) vs.length then
        match bnd hi n n with
        | some b => match bnd lo 0 b with
          | some l => some (.slice (some (i, off + l * esz)) (b - l) (some (n - l)) esz, h)
          | none => none
        | none => none
      else none
  | _ => none
@[congr] theorem slcB_congr {b b' : Option Blk} {n esz i off : Nat} {lo hi : Option V} {h : H} (e : b = b') : slcB b n esz i off lo hi h = slcB b' n esz i off lo hi h := by rw [e]
noncomputable def slcAE (n esz : Nat) (x : V) (lo hi : Option V) (h : H) : Option (V × H) := match x with
  | .ptr (some (i, off)) => slcB (h.get i) n esz i off lo hi h
  | _ => none
theorem x_slcA (Q : Orc) (T : Tr V) (h : H) (n esz : Nat) (x : O) (lo hi : Option O) : Eng.step (.slcA n esz x lo hi none) Q T h = slcAE n esz (evO T x) (evM T lo) (evM T hi) h := by
  show o_slcA n esz x lo hi none Q T h = _
  unfold o_slcA slcAE slcB evM
  cases evO T x <;> try rfl
  rename_i a
  cases a with
  | none => rfl
  | some io =>
    obtain ⟨i, off⟩ := io
    simp only
    cases h.get i with
    | none => rfl
    | some b => cases b <;> rfl
theorem x_slcAE (n esz i off : Nat) (lo hi : Option V) (h : H) : slcAE n esz (.ptr (some (i, off))) lo hi h = slcB (h.get i) n esz i off lo hi h := _root_.id rfl
theorem x_slcB (vs : List V) (m : Md) (n esz i off l b : Nat) (lo hi : Option V) (h : H) (hv : off + n * esz ≤ vs.length) (h1 : bnd hi n n = some b) (h2 : bnd lo 0 b = some l) :
    slcB (some (.cells vs m)) n esz i off lo hi h = some (.slice (some (i, off + l * esz)) (b - l) (some (n - l)) esz, h) := by
  unfold slcB
  simp only [cond_ble, if_pos hv, h1, h2]
theorem x_M1 (T : Tr V) (o : O) : evM T (some o) = some (evO T o) := _root_.id rfl
theorem x_M0 (T : Tr V) : evM T none = none := _root_.id rfl
theorem x_bnd0 (d m : Nat) : bnd none d m = some d := _root_.id rfl
theorem x_bnd (k : IntKind) (n d m : Nat) (h : n ≤ m) : bnd (some (.int k (n : Int))) d m = some n := by
  show (bif Nat.ble n m then some n else none) = _
  rw [cond_ble, if_pos h]
theorem w64n {n : Nat} (h : n < 9223372036854775808) : wr .i64 (n : Int) = (n : Int) := wr_i64 (by omega)
theorem idxn {i L : Nat} (h : i < L) : idx (i : Int) L = some i := by
  show (bif Nat.blt i L then some i else none) = _
  rw [cond_blt, if_pos h]
def seqP (k : IntKind) : Nat → List Nat → List (Nat × Nat × V)
  | _, [] => []
  | i, a :: r => (i, 1, .int k (a : Int)) :: seqP k (i + 1) r
theorem fill_seq (k : IntKind) : ∀ (l : List Nat) (pre post : List V), post.length = l.length → fillV (pre ++ post) (seqP k pre.length l) = some (pre ++ ofI k l) := by
  intro l
  induction l with
  | nil => intro pre post h; cases post with | nil => rfl | cons => cases h
  | cons a r ih =>
    intro pre post h
    cases post with
    | nil => cases h
    | cons v post =>
      show fillV _ ((pre.length, 1, .int k (a : Int)) :: seqP k (pre.length + 1) r) = _
      rw [x_filli _ _ _ _ _ (by simp), writeN_eq _ _ _ (by simp)]
      have := ih (pre ++ [.int k (a : Int)]) post (by simpa using h)
      rw [List.length_append] at this
      simp only [List.length_cons, List.length_nil, Nat.zero_add] at this
      have e1 : (pre ++ v :: post).take pre.length ++ [V.int k (a : Int)] ++ (pre ++ v :: post).drop (pre.length + [V.int k (a : Int)].length) = pre ++ [V.int k (a : Int)] ++ post := by simp
      rw [e1, this]
      simp [ofI]
theorem fill_seq0 (k : IntKind) (l : List Nat) (z : List V) (hz : z.length = l.length) : fillV z (seqP k 0 l) = some (ofI k l) := by
  have := fill_seq k l [] z hz
  simpa using this
def cubes : List Nat := [1116352408, 1899447441, 3049323471, 3921009573, 961987163, 1508970993, 2453635748, 2870763221, 3624381080, 310598401, 607225278, 1426881987, 1925078388, 2162078206, 2614888103, 3248222580, 3835390401, 4022224774, 264347078, 604807628, 770255983, 1249150122, 1555081692, 1996064986, 2554220882, 2821834349, 2952996808, 3210313671, 3336571891, 3584528711, 113926993, 338241895, 666307205, 773529912, 1294757372, 1396182291, 1695183700, 1986661051, 2177026350, 2456956037, 2730485921, 2820302411, 3259730800, 3345764771, 3516065817, 3600352804, 4094571909, 275423344, 430227734, 506948616, 659060556, 883997877, 958139571, 1322822218, 1537002063, 1747873779, 1955562222, 2024104815, 2227730452, 2361852424, 2428436474, 2756734187, 3204031479, 3329325298]
def squaresL : List Nat := [1779033703, 3144134277, 1013904242, 2773480762, 1359893119, 2600822924, 528734635, 1541459225]
def sumC (st blk : List Nat) (len : Nat) : List V := ofI .u32 st ++ (ofI .u8 blk ++ [.int .u64 (len : Int), .bool true])
theorem sumC_len (st blk : List Nat) (len : Nat) (h1 : st.length = 8) (h2 : blk.length = 64) : (sumC st blk len).length = 74 := by
  simp [sumC, ofI_len, h1, h2]
theorem sumC_b (st blk : List Nat) (len j : Nat) (h1 : st.length = 8) (h2 : j < blk.length) : (sumC st blk len)[8 + j]? = some (.int .u8 (blk.getD j 0 : Nat)) := by
  unfold sumC
  rw [List.getElem?_append_right (by simp [ofI_len, h1]), ofI_len, h1, Nat.add_sub_cancel_left, List.getElem?_append_left (by simpa [ofI_len] using h2), ofI_get _ _ _ h2]
theorem sumC_s (st blk : List Nat) (len j : Nat) (h1 : st.length = 8) (h2 : j < 8) : (sumC st blk len)[j]? = some (.int .u32 (st.getD j 0 : Nat)) := by
  unfold sumC
  rw [List.getElem?_append_left (by simp [ofI_len, h1, h2]), ofI_get _ _ _ (by omega)]
theorem sumC_l (st blk : List Nat) (len : Nat) (h1 : st.length = 8) (h2 : blk.length = 64) : (sumC st blk len)[72]? = some (.int .u64 (len : Int)) := by
  unfold sumC
  rw [List.getElem?_append_right (by simp [ofI_len, h1]), ofI_len, h1, List.getElem?_append_right (by simp [ofI_len, h2]), ofI_len, h2]; rfl
theorem sumC_o (st blk : List Nat) (len : Nat) (h1 : st.length = 8) (h2 : blk.length = 64) : (sumC st blk len)[73]? = some (.bool true) := by
  unfold sumC
  rw [List.getElem?_append_right (by simp [ofI_len, h1]), ofI_len, h1, List.getElem?_append_right (by simp [ofI_len, h2]), ofI_len, h2]; rfl
def wnx (blk ws : List Nat) (i : Nat) : Nat :=
  if i < 16 then orr (orr (orr (sl (blk.getD (4 * i) 0 % 4294967296) 24) (sl (blk.getD (4 * i + 1) 0 % 4294967296) 16)) (sl (blk.getD (4 * i + 2) 0 % 4294967296) 8)) (blk.getD (4 * i + 3) 0 % 4294967296)
  else ad (ad (ad (ws.getD (i - 16) 0) (xr (xr (rl (ws.getD (i - 15) 0) 25) (rl (ws.getD (i - 15) 0) 14)) (sr (ws.getD (i - 15) 0) 3))) (ws.getD (i - 7) 0))
    (xr (xr (rl (ws.getD (i - 2) 0) 15) (rl (ws.getD (i - 2) 0) 13)) (sr (ws.getD (i - 2) 0) 10))
def wsN (blk : List Nat) : Nat → List Nat
  | 0 => []
  | n + 1 => wsN blk n ++ [wnx blk (wsN blk n) n]
theorem wsN_len (blk : List Nat) (n : Nat) : (wsN blk n).length = n := by
  induction n with
  | zero => rfl
  | succ n ih => simp [wsN, ih]
def wCells (blk : List Nat) (i : Nat) : List V := ofI .u32 (wsN blk i) ++ List.replicate (64 - i) (.int .u32 0)
theorem wCells_len (blk : List Nat) (i : Nat) (h : i ≤ 64) : (wCells blk i).length = 64 := by simp [wCells, ofI_len, wsN_len]; omega
theorem wCells_get (blk : List Nat) (i j : Nat) (h : j < i) : (wCells blk i)[j]? = some (.int .u32 ((wsN blk i).getD j 0 : Nat)) := by
  unfold wCells
  rw [List.getElem?_append_left (by rw [ofI_len, wsN_len]; exact h), ofI_get _ _ _ (by rw [wsN_len]; exact h)]
theorem wCells_put (blk : List Nat) (i : Nat) (h : i < 64) : writeN (wCells blk i) i [.int .u32 (wnx blk (wsN blk i) i : Nat)] = wCells blk (i + 1) := by
  rw [writeN_eq _ _ _ (by rw [wCells_len _ _ (by omega)]; omega)]
  have hl : (ofI .u32 (wsN blk i)).length = i := by rw [ofI_len, wsN_len]
  have e1 : (wCells blk i).take i = ofI .u32 (wsN blk i) := by
    unfold wCells; rw [List.take_left' hl]
  have e2 : (wCells blk i).drop (i + 1) = List.replicate (63 - i) (.int .u32 0) := by
    unfold wCells
    rw [List.drop_append, hl, List.drop_eq_nil_of_le (by omega), List.nil_append, List.drop_replicate]
    congr 1; omega
  simp only [List.length_cons, List.length_nil, Nat.zero_add, e1, e2]
  unfold wCells
  rw [wsN, ofI_app, show 64 - (i + 1) = 63 - i by omega]
  rfl
structure SI (p q r : Nat) (st blk : List Nat) (len : Nat) (md : Md) (h0 : H) (i : Nat) (T : Tr V) (h : H) : Prop where
  i64 : i ≤ 64
  t0 : evO T (.t 0) = .ptr (some (p, 0))
  t2 : evO T (.t 2) = .ptr (some (r, 0))
  t3 : evO T (.t 3) = .ptr (some (q, 0))
  t10 : evO T (.t 10) = .int .i64 (i : Int)
  gq : h.get q = some (.cells (wCells blk i) .rw)
  eq : Eqx q h0 h
structure S8 where
  a : Nat
  b : Nat
  c : Nat
  d : Nat
  e : Nat
  f : Nat
  g : Nat
  h : Nat
def rnd (s : S8) (k w : Nat) : S8 :=
  ⟨ad (ad (ad (ad (ad s.h (trn s.e 6 11 25)) (xr (an s.e s.f) (an (nt s.e) s.g))) k) w) (ad (trn s.a 2 13 22) (xr (xr (an s.a s.b) (an s.a s.c)) (an s.b s.c))), s.a, s.b, s.c,
   ad s.d (ad (ad (ad (ad s.h (trn s.e 6 11 25)) (xr (an s.e s.f) (an (nt s.e) s.g))) k) w), s.e, s.f, s.g⟩
def rnds (ws : List Nat) (s : S8) : Nat → S8
  | 0 => s
  | i + 1 => rnd (rnds ws s i) (cubes.getD i 0) (ws.getD i 0)
def updN (st vs : List Nat) : Nat → List Nat
  | 0 => st
  | i + 1 => (updN st vs i).set i (ad ((updN st vs i).getD i 0) (vs.getD i 0))
theorem updN_len (st vs : List Nat) (i : Nat) : (updN st vs i).length = st.length := by
  induction i with
  | zero => rfl
  | succ i ih => simp [updN, ih]
def s8of (st : List Nat) : S8 := ⟨st.getD 0 0, st.getD 1 0, st.getD 2 0, st.getD 3 0, st.getD 4 0, st.getD 5 0, st.getD 6 0, st.getD 7 0⟩
def s8l (s : S8) : List Nat := [s.a, s.b, s.c, s.d, s.e, s.f, s.g, s.h]
def mixV (st blk : List Nat) : List Nat := updN st (s8l (rnds (wsN blk 64) (s8of st) 64)) 8
theorem mixV_len (st blk : List Nat) : (mixV st blk).length = st.length := updN_len _ _ _
theorem writeN_set (vs : List V) (i : Nat) (v : V) (h : i < vs.length) : writeN vs i [v] = vs.set i v := by
  rw [writeN_eq _ _ _ (by omega), List.set_eq_take_append_cons_drop, if_pos h]
  simp
theorem ofI_set (k : IntKind) (l : List Nat) (i n : Nat) : (ofI k l).set i (.int k (n : Int)) = ofI k (l.set i n) := by
  induction l generalizing i with
  | nil => simp [ofI]
  | cons a r ih => cases i with
    | zero => rfl
    | succ i => simp only [ofI, List.set_cons_succ, ih]
theorem sumC_set (st blk : List Nat) (len i n : Nat) (h1 : st.length = 8) (h2 : blk.length = 64) (hi : i < 8) : writeN (sumC st blk len) i [.int .u32 (n : Int)] = sumC (st.set i n) blk len := by
  rw [writeN_set _ _ _ (by rw [sumC_len _ _ _ h1 h2]; omega)]
  unfold sumC
  rw [List.set_append_left _ _ (by rw [ofI_len]; omega), ofI_set]
theorem vbeq_int (k : IntKind) (n : Int) : V.beq (.int k n) (.int k n) = true := by
  unfold V.beq; rw [kindEq_self, ieq_dec]; simp
structure MI (p qc qs r : Nat) (ws : List Nat) (s : S8) (h0 : H) (i : Nat) (T : Tr V) (h : H) : Prop where
  i64 : i ≤ 64
  hh : h = h0
  t0 : evO T (.t 0) = .ptr (some (p, 0))
  t2 : evO T (.t 2) = .ptr (some (qc, 0))
  t3 : evO T (.t 3) = .ptr (some (qs, 0))
  t4 : evO T (.t 4) = .int .u32 ((rnds ws s i).a : Nat)
  t5 : evO T (.t 5) = .int .u32 ((rnds ws s i).b : Nat)
  t6 : evO T (.t 6) = .int .u32 ((rnds ws s i).c : Nat)
  t7 : evO T (.t 7) = .int .u32 ((rnds ws s i).d : Nat)
  t8 : evO T (.t 8) = .int .u32 ((rnds ws s i).e : Nat)
  t9 : evO T (.t 9) = .int .u32 ((rnds ws s i).f : Nat)
  t10 : evO T (.t 10) = .int .u32 ((rnds ws s i).g : Nat)
  t11 : evO T (.t 11) = .int .u32 ((rnds ws s i).h : Nat)
  t62 : evO T (.t 62) = .int .i64 (i : Int)
structure MJ (p : Nat) (vs st blk : List Nat) (len : Nat) (h0 : H) (i : Nat) (T : Tr V) (h : H) : Prop where
  i8 : i ≤ 8
  t0 : evO T (.t 0) = .ptr (some (p, 0))
  t123 : evO T (.t 123) = .agg (ofI .u32 vs)
  t124 : evO T (.t 124) = .int .i64 (i : Int)
  gp : h.get p = some (.cells (sumC (updN st vs i) blk len) .rw)
  eq : Eqx p h0 h
theorem x_idxArr (Q : Orc) (T : Tr V) (h : H) (n esz : Nat) (ag : Bool) (x i : O) : Eng.step (.idxArr n esz ag x i) Q T h = (match evO T x, evO T i with
  | .agg cs, .int _ j => (match idx j n with
    | some j => same h (partV cs (j * esz) (agSz ag esz))
    | none => none)
  | _, _ => none) := _root_.id rfl
structure Sm where
  st : List Nat
  blk : List Nat
  len : Nat
def eat1 (s : Sm) (b : Nat) : Sm :=
  ⟨if (s.len + 1) % 18446744073709551616 % 64 = 0 then mixV s.st (s.blk.set (s.len % 64) b) else s.st, s.blk.set (s.len % 64) b, (s.len + 1) % 18446744073709551616⟩
def absorb (s : Sm) (l : List Nat) : Sm := l.foldl eat1 s
theorem absorb_app (s : Sm) (a b : List Nat) : absorb s (a ++ b) = absorb (absorb s a) b := List.foldl_append
theorem set_mid (blk : List Nat) (u b : Nat) (l : List Nat) (h : u + l.length < blk.length) :
    (blk.set u b).take (u + 1) ++ l ++ (blk.set u b).drop (u + 1 + l.length) = blk.take u ++ (b :: l) ++ blk.drop (u + (b :: l).length) := by
  have hu : u < blk.length := by omega
  rw [List.set_eq_take_append_cons_drop, if_pos hu]
  have e1 : (blk.take u ++ b :: blk.drop (u + 1)).take (u + 1) = blk.take u ++ [b] := by
    rw [List.take_append]; simp [List.length_take, Nat.min_eq_left (Nat.le_of_lt hu), List.take_take]
  have e2 : (blk.take u ++ b :: blk.drop (u + 1)).drop (u + 1 + l.length) = blk.drop (u + (b :: l).length) := by
    rw [List.drop_append]
    simp only [List.length_take, Nat.min_eq_left (Nat.le_of_lt hu), List.length_cons]
    rw [List.drop_eq_nil_of_le (by simp only [List.length_take]; omega)]
    have : u + 1 + l.length - u = l.length + 1 := by omega
    rw [this, List.drop_succ_cons, List.drop_drop, List.nil_append]
    congr 1; omega
  rw [e1, e2]; simp
theorem absorb_part : ∀ (l : List Nat) (s : Sm), s.blk.length = 64 → s.len % 64 + l.length < 64 → absorb s l = ⟨s.st, s.blk.take (s.len % 64) ++ l ++ s.blk.drop (s.len % 64 + l.length), if l = [] then s.len else (s.len + l.length) % 18446744073709551616⟩ := by
  intro l
  induction l with
  | nil => intro s h1 h2; simp [absorb]
  | cons b r ih =>
    intro s h1 h2
    simp only [List.length_cons] at h2
    have hm : (s.len + 1) % 18446744073709551616 % 64 = s.len % 64 + 1 := by omega
    have hne : ¬ ((s.len + 1) % 18446744073709551616 % 64 = 0) := by omega
    have e1 : absorb s (b :: r) = absorb ⟨s.st, s.blk.set (s.len % 64) b, (s.len + 1) % 18446744073709551616⟩ r := by
      show absorb (eat1 s b) r = _
      unfold eat1; rw [if_neg hne]
    rw [e1, ih _ (by simpa using h1) (by simp only [hm]; omega)]
    simp only [hm]
    rw [set_mid _ _ _ _ (by omega)]
    congr 1
    simp only [List.length_cons, reduceCtorEq, if_false]
    split
    · rename_i h; subst h; rfl
    · omega
theorem absorb_chunk (s : Sm) (l : List Nat) (h1 : s.blk.length = 64) (h2 : s.len % 64 + l.length ≤ 64) (h3 : l ≠ []) :
    absorb s l = ⟨if (s.len + l.length) % 18446744073709551616 % 64 = 0 then mixV s.st (s.blk.take (s.len % 64) ++ l ++ s.blk.drop (s.len % 64 + l.length)) else s.st,
      s.blk.take (s.len % 64) ++ l ++ s.blk.drop (s.len % 64 + l.length), (s.len + l.length) % 18446744073709551616⟩ := by
  have hl : 0 < l.length := List.length_pos_iff.2 h3
  by_cases hlt : s.len % 64 + l.length < 64
  · rw [absorb_part l s h1 hlt, if_neg h3, if_neg (by omega)]
  · obtain ⟨r, b, rfl⟩ : ∃ r b, l = r ++ [b] := ⟨l.dropLast, l.getLast h3, (List.dropLast_concat_getLast h3).symm⟩
    simp only [List.length_append, List.length_cons, List.length_nil, Nat.zero_add] at *
    rw [absorb_app, absorb_part r s h1 (by omega)]
    have hlen : (if r = [] then s.len else (s.len + r.length) % 18446744073709551616) % 64 = s.len % 64 + r.length := by
      split
      · rename_i h; subst h; simp
      · omega
    have hlen2 : ((if r = [] then s.len else (s.len + r.length) % 18446744073709551616) + 1) % 18446744073709551616 = (s.len + (r.length + 1)) % 18446744073709551616 := by
      split
      · rename_i h; subst h; simp
      · omega
    have hb : (s.blk.take (s.len % 64) ++ r ++ s.blk.drop (s.len % 64 + r.length)).set (s.len % 64 + r.length) b = s.blk.take (s.len % 64) ++ (r ++ [b]) ++ s.blk.drop (s.len % 64 + (r.length + 1)) := by
      have hd : s.blk.drop (s.len % 64 + r.length) = (s.blk.drop (s.len % 64 + r.length)).head (by intro h; have := congrArg List.length h; simp at this; omega) :: s.blk.drop (s.len % 64 + (r.length + 1)) := by
        rw [← Nat.add_assoc, ← List.drop_drop (i := 1)]
        simp
      rw [hd, List.set_append_right _ _ (by simp [List.length_take]; omega)]
      have : s.len % 64 + r.length - (s.blk.take (s.len % 64) ++ r).length = 0 := by simp [List.length_take]; omega
      rw [this]; simp
    show eat1 _ b = _
    unfold eat1
    simp only [hlen, hlen2, hb]
def SmOk (s : Sm) : Prop := s.st.length = 8 ∧ s.blk.length = 64 ∧ s.len < 18446744073709551616
theorem eat1_ok (s : Sm) (b : Nat) (h : SmOk s) : SmOk (eat1 s b) := by
  refine ⟨?_, by simp [eat1, h.2.1], by simp only [eat1]; omega⟩
  unfold eat1
  simp only
  split
  · rw [mixV_len]; exact h.1
  · exact h.1
theorem absorb_ok : ∀ (l : List Nat) (s : Sm), SmOk s → SmOk (absorb s l) := by
  intro l
  induction l with
  | nil => intro s h; exact h
  | cons b r ih => intro s h; exact ih _ (eat1_ok s b h)
def Src (h0 : H) (p a0 : Nat) (a : Option (Nat × Nat)) (e : Nat) (l : List Nat) : Prop :=
  l = [] ∨ ∃ bi off vs m, a = some (bi, off) ∧ e = 1 ∧ bi ≠ p ∧ bi < a0 ∧ h0.get bi = some (.cells vs m) ∧ off + l.length ≤ vs.length ∧ (vs.drop off).take l.length = ofI .u8 l
theorem Src.drop {h0 : H} {p a0 : Nat} {a : Option (Nat × Nat)} {e : Nat} {l : List Nat} (s : Src h0 p a0 a e l) (m : Nat) : Src h0 p a0 (upA a m) e (l.drop m) := by
  rcases s with rfl | ⟨bi, off, vs, md, rfl, he, h1, h2, h3, h4, h5⟩
  · left; simp
  · by_cases hm : m < l.length
    · right
      refine ⟨bi, off + m, vs, md, rfl, he, h1, h2, h3, by rw [List.length_drop]; omega, ?_⟩
      rw [List.length_drop, ← List.drop_drop, ← List.drop_take, h5, ofI_drop]
    · left; exact List.drop_eq_nil_of_le (by omega)
theorem src_cells {h0 h : H} {p a0 : Nat} {a : Option (Nat × Nat)} {e : Nat} {l : List Nat} {c : Option Nat} (s : Src h0 p a0 a e l) (fr : ∀ i, i < a0 → i ≠ p → h.get i = h0.get i) (hl : l ≠ []) : srcCells h 1 (.slice a l.length c e) = some (l.length, ofI .u8 l) := by
  rcases s with rfl | ⟨bi, off, vs, md, rfl, he, h1, h2, h3, h4, h5⟩
  · exact absurd rfl hl
  · have hp : 0 < l.length := List.length_pos_iff.2 hl
    obtain ⟨n, en⟩ : ∃ n, l.length = n + 1 := ⟨l.length - 1, by omega⟩
    have rd : readN vs off (l.length * 1) = some (ofI .u8 l) := by rw [Nat.mul_one, readN_of _ _ _ h4, h5]
    unfold srcCells cellsAt
    rw [en] at rd ⊢
    simp only [fr bi h2 h1, h3, rd]
theorem sumC_blk (st blk : List Nat) (len u : Nat) (l : List Nat) (h1 : st.length = 8) (h2 : blk.length = 64) (h3 : u + l.length ≤ 64) :
    writeN (sumC st blk len) (8 + u) (ofI .u8 l) = sumC st (blk.take u ++ l ++ blk.drop (u + l.length)) len := by
  have hs : (ofI .u32 st).length = 8 := by rw [ofI_len, h1]
  rw [writeN_eq _ _ _ (by rw [sumC_len _ _ _ h1 h2]; omega), ofI_len]
  unfold sumC
  rw [List.take_append, List.drop_append, hs]
  have e1 : (ofI .u32 st).take (8 + u) = ofI .u32 st := List.take_of_length_le (by omega)
  have e2 : (ofI .u32 st).drop (8 + u + l.length) = [] := List.drop_eq_nil_of_le (by omega)
  rw [e1, e2, show 8 + u - 8 = u by omega, show 8 + u + l.length - 8 = u + l.length by omega]
  rw [List.take_append_of_le_length (by rw [ofI_len]; omega), List.drop_append_of_le_length (by rw [ofI_len]; omega), ofI_take, ofI_drop]
  simp only [ofI_app, List.append_assoc, List.nil_append]
theorem sumC_setlen (st blk : List Nat) (len n : Nat) (h1 : st.length = 8) (h2 : blk.length = 64) : writeN (sumC st blk len) 72 [.int .u64 (n : Int)] = sumC st blk n := by
  rw [writeN_set _ _ _ (by rw [sumC_len _ _ _ h1 h2]; omega)]
  unfold sumC
  rw [List.set_append_right _ _ (by rw [ofI_len]; omega), ofI_len, h1, List.set_append_right _ _ (by rw [ofI_len]; omega), ofI_len, h2]
  rfl
theorem sumC_blk' (st blk : List Nat) (len u : Nat) (l : List Nat) (h2 : blk.length = 64) (h3 : u + l.length ≤ 64) : (blk.take u ++ l ++ blk.drop (u + l.length)).length = 64 := by
  simp only [List.length_append, List.length_take, List.length_drop]; omega
noncomputable def copyE (esz : Nat) (d : V) (r : Option (Nat × List V)) (h : H) : Option (V × H) := match d with
  | .slice base dl _ _ => match r with
    | some (n, l) => match (bif Nat.ble n dl then n else dl) with
      | 0 => some (.int .i64 (.ofNat 0), h)
      | m + 1 => match base with
        | some (i, off) => match copyC h i off (l.take ((m + 1) * esz)) with | some h => some (.int .i64 (.ofNat (m + 1)), h) | none => none
        | none => none
    | none => none
  | _ => none
theorem x_copy (Q : Orc) (T : Tr V) (h : H) (esz : Nat) (d s : O) : Eng.step (.copy esz d s) Q T h = copyE esz (evO T d) (srcCells h esz (evO T s)) h := by
  show o_copy esz d s Q T h = _
  unfold o_copy copyE
  cases evO T d <;> rfl
theorem plain_ofI (k : IntKind) (l : List Nat) : (ofI k l).all plainV = true := by
  induction l with
  | nil => rfl
  | cons a r ih => simp only [ofI, List.all_cons, ih, Bool.and_true]; rfl
theorem copy_bytes (h : H) (i off dl : Nat) (c : Option Nat) (l : List Nat) (vs : List V) (md : Md) (hmd : isRo md = false) (hg : h.get i = some (.cells vs md)) (hl : l ≠ []) (hd : 0 < dl) (hv : off + min l.length dl ≤ vs.length) :
    copyE 1 (.slice (some (i, off)) dl c 1) (some (l.length, ofI .u8 l)) h = some (.int .i64 ((min l.length dl : Nat) : Int), h.put i (.cells (writeN vs off (ofI .u8 (l.take (min l.length dl)))) md)) := by
  have hp : 0 < l.length := List.length_pos_iff.2 hl
  have hm : (bif Nat.ble l.length dl then l.length else dl) = min l.length dl := by
    rw [cond_ble]
    split
    · rw [Nat.min_eq_left (by assumption)]
    · rw [Nat.min_eq_right (by omega)]
  unfold copyE
  simp only [hm]
  obtain ⟨m, em⟩ : ∃ m, min l.length dl = m + 1 := ⟨min l.length dl - 1, by omega⟩
  have hlen : (ofI .u8 (l.take (m + 1))).length = m + 1 := by rw [ofI_len, List.length_take]; omega
  rw [em] at hv ⊢
  simp only [Nat.mul_one, ofI_take]
  unfold copyC storeCells
  rw [plain_ofI, hg]
  simp only [_root_.cond_true, hlen, cond_ble]
  cases md with
  | ro => cases hmd
  | rw => simp only [if_pos hv]; rfl
  | sh => simp only [if_pos hv]; rfl
theorem slcS_lo (a : Option (Nat × Nat)) (n m : Nat) (c : Option Nat) (e : Nat) (k : IntKind) (hm : m ≤ n) (he : e = 1) : slcV 1 (some (.int k (m : Int))) none none (.slice a n c e) = some (.slice (upA a m) (n - m) (subC c m) 1) := by
  subst he
  unfold slcV
  simp only [Nat.beq_refl, Bool.true_or, _root_.cond_true, x_bnd0, x_bnd _ _ _ _ hm, Nat.mul_one]
theorem x_slcS (Q : Orc) (T : Tr V) (h : H) (esz : Nat) (x : O) (lo hi mx : Option O) : Eng.step (.slcS esz x lo hi mx) Q T h = same h (slcV esz (evM T lo) (evM T hi) (evM T mx) (evO T x)) := _root_.id rfl
theorem s_callVy (Q : Orc) (xs : List V) (l : Nat) (h : H) : callV Q xs (.yld l) h = Q (.yld l) xs h := _root_.id rfl
theorem w64ad (a b : Nat) : wr .u64 ((a : Int) + (b : Int)) = ((a + b) % 18446744073709551616 : Nat) := by
  rw [← Int.natCast_add]
  have : ∀ n : Nat, wr .u64 (n : Int) = asK .u64 (n % 18446744073709551616) := fun n => rfl
  rw [this]; unfold asK; rw [cond_blt, if_pos (by simp only [half]; omega)]; rfl
theorem u64n (n : Nat) (h : n < 18446744073709551616) : wr .u64 (n : Int) = (n : Int) := wr_u64 (by omega)
theorem b_rem64 (e : EqK) (h : H) (a : Nat) : binV .rem e h (.int .u64 (a : Int)) (.int .u64 64) = some (.int .u64 ((a % 64 : Nat) : Int)) := by
  rw [b_rem _ _ _ _ _ (by omega)]; rfl
def padSz (len : Nat) : Nat := if 64 - len % 64 < 9 then 128 - len % 64 else 64 - len % 64
theorem padSz_b (len : Nat) : 9 ≤ padSz len ∧ padSz len ≤ 72 := by unfold padSz; split <;> omega
def padN (len : Nat) : Nat → List Nat
  | 0 => 128 :: List.replicate (padSz len - 1) 0
  | i + 1 => (padN len i).set (padSz len - 1 - i) (len * 8 % 18446744073709551616 / 2 ^ (8 * i) % 256)
theorem padN_len (len i : Nat) : (padN len i).length = padSz len := by
  induction i with
  | zero => have := padSz_b len; simp [padN]; omega
  | succ i ih => simp [padN, ih]
def padV (len : Nat) : List Nat := padN len 8
theorem padV_len (len : Nat) : (padV len).length = padSz len := padN_len _ _
theorem b_shrN (e : EqK) (h : H) (k' : IntKind) (a m : Nat) (hm : m ≤ 64) : binV .shr e h (.int .u64 (a : Int)) (.int k' (m : Int)) = some (.int .u64 ((a / 2 ^ m : Nat) : Int)) := by
  have e1 : binV .shr e h (.int .u64 (a : Int)) (.int k' (m : Int)) = some (.int .u64 ((a / 2 ^ (bif Nat.ble m 64 then m else 64) : Nat) : Int)) := rfl
  rw [e1, cond_ble, if_pos hm]
theorem w8n (n : Nat) : wr .u8 (n : Int) = ((n % 256 : Nat) : Int) := by
  have : wr .u8 (n : Int) = asK .u8 (n % 256) := rfl
  rw [this]; unfold asK; rw [cond_blt, if_pos (by simp only [half]; omega)]; rfl
theorem w64n' (n : Nat) : wr .u64 (n : Int) = ((n % 18446744073709551616 : Nat) : Int) := by
  have : wr .u64 (n : Int) = asK .u64 (n % 18446744073709551616) := rfl
  rw [this]; unfold asK; rw [cond_blt, if_pos (by simp only [half]; omega)]; rfl
structure PI (q sz len : Nat) (h0 : H) (i : Nat) (T : Tr V) (h : H) : Prop where
  i8 : i ≤ 8
  t0 : evO T (.t 0) = .int .u64 (len : Int)
  t4 : evO T (.t 4) = .int .i64 (sz : Int)
  t5 : evO T (.t 5) = .slice (some (q, 0)) sz (some sz) 1
  t20 : evO T (.t 20) = .int .i64 (i : Int)
  gq : h.get q = some (.cells (ofI .u8 (padN len i)) .rw)
  eq : Eqx q h0 h
noncomputable def mksE (z : List V) (bytes : Nat) (l c : V) (h : H) : Option (V × H) := match l, c with
  | .int _ (.ofNat l), .int _ (.ofNat c) => bif Nat.ble l c && roomy c bytes then
      some (.slice (some (h.next, 0)) l (some c) z.length, h.new (.cells (List.replicate c z).flatten .rw)) else none
  | _, _ => none
theorem x_mkslice (Q : Orc) (T : Tr V) (h : H) (z : List V) (bytes : Nat) (l c : O) : Eng.step (.mkslice z bytes l c) Q T h = mksE z bytes (evO T l) (evO T c) h := _root_.id rfl
theorem mkslice_n (h : H) (k k' : IntKind) (n : Nat) (hn : n ≤ 35184372088832) : mksE [.int k 0] 1 (.int k' (n : Int)) (.int k' (n : Int)) h = some (.slice (some (h.next, 0)) n (some n) 1, h.new (.cells (ofI k (List.replicate n 0)) .rw)) := by
  have : (List.replicate n [V.int k 0]).flatten = ofI k (List.replicate n 0) := by
    clear hn
    induction n with
    | zero => rfl
    | succ n ih => rw [List.replicate_succ, List.flatten_cons, ih, List.replicate_succ]; rfl
  show (bif Nat.ble n n && roomy n 1 then _ else _) = _
  have r : (Nat.ble n n && roomy n 1) = true := by simp [roomy, hn]
  rw [r, this]; rfl
def be4 (w : Nat) : List Nat := [sr w 24 % 256, sr w 16 % 256, sr w 8 % 256, w % 256]
def outN (st : List Nat) : Nat → List Nat
  | 0 => List.replicate 32 0
  | i + 1 => (outN st i).take (4 * i) ++ be4 (st.getD i 0) ++ (outN st i).drop (4 * i + 4)
theorem outN_len (st : List Nat) (i : Nat) (h : i ≤ 8) : (outN st i).length = 32 := by
  induction i with
  | zero => rfl
  | succ i ih => have := ih (by omega); simp only [outN, List.length_append, List.length_take, List.length_drop, this, be4, List.length_cons, List.length_nil]; omega
structure EI (o : Nat) (st : List Nat) (h0 : H) (i : Nat) (T : Tr V) (h : H) : Prop where
  i8 : i ≤ 8
  t2 : evO T (.t 2) = evO T (.t 2)
  t4 : evO T (.t 4) = .ptr (some (o, 0))
  t21 : evO T (.t 21) = .agg (ofI .u32 st)
  t22 : evO T (.t 22) = .int .i64 (i : Int)
  go : h.get o = some (.cells (ofI .u8 (outN st i)) .rw)
  kq : Kq o h0 h
  on : o < h0.next
def hashV (st : List Nat) : List Nat := outN st 8
def endV (s : Sm) : List Nat := hashV (absorb s (padV s.len)).st
def initS : Sm := ⟨squaresL, List.replicate 64 0, 0⟩
theorem initS_ok : SmOk initS := ⟨rfl, rfl, by decide⟩
theorem sumC_plain (st blk : List Nat) (len : Nat) : (sumC st blk len).all plainV = true := by
  unfold sumC; rw [List.all_append, List.all_append, plain_ofI, plain_ofI]; rfl
theorem writeN_all (z l : List V) (h : z.length = l.length) : writeN z 0 l = l := by rw [w_zero, List.drop_eq_nil_of_le (by omega), List.append_nil]
def SrcH (h : H) (a : Option (Nat × Nat)) (e : Nat) (l : List Nat) : Prop :=
  l = [] ∨ ∃ bi off vs m, a = some (bi, off) ∧ e = 1 ∧ bi < h.next ∧ h.get bi = some (.cells vs m) ∧ off + l.length ≤ vs.length ∧ (vs.drop off).take l.length = ofI .u8 l
theorem SrcH.src {h h' : H} {a : Option (Nat × Nat)} {e : Nat} {l : List Nat} (s : SrcH h a e l) (k : Kp h h') (p : Nat) (hp : h.next ≤ p) : Src h' p h'.next a e l := by
  rcases s with h | ⟨bi, off, vs, m, h1, h2, h3, h4, h5, h6⟩
  · exact .inl h
  · exact .inr ⟨bi, off, vs, m, h1, h2, by omega, Nat.lt_of_lt_of_le h3 k.1, by rw [k.2 _ h3, h4], h5, h6⟩
theorem SrcH.mono {h h' : H} {a : Option (Nat × Nat)} {e : Nat} {l : List Nat} (s : SrcH h a e l) (k : Kp h h') : SrcH h' a e l := by
  rcases s with h | ⟨bi, off, vs, m, h1, h2, h3, h4, h5, h6⟩
  · exact .inl h
  · exact .inr ⟨bi, off, vs, m, h1, h2, Nat.lt_of_lt_of_le h3 k.1, by rw [k.2 _ h3, h4], h5, h6⟩
theorem hashV_len (st : List Nat) : (hashV st).length = 32 := outN_len _ _ (by omega)
theorem put32 (l : List Nat) (hl : l.length = 32) : (∀ (h : H) (i : Nat), storeV h 32 (.ptr (some (i, 0))) (.agg (ofI .u8 l)) = storeE (h.get i) h i 0 (ofI .u8 l)) ∧
    (∀ (h : H) (i : Nat), storeE (some (.cells (ofI .u8 (List.replicate 32 0)) .rw)) h i 0 (ofI .u8 l) = some (h.put i (.cells (ofI .u8 l) .rw))) ∧
    (∀ m, loadE (some (.cells (ofI .u8 l) m)) (some 32) 0 = some (.agg (ofI .u8 l))) := by
  have h32 : (ofI .u8 l).length = 32 := by rw [ofI_len, hl]
  exact ⟨fun h i => m_storeA h 32 i 0 _ (by rw [h32, plain_ofI]; rfl), fun h i => by rw [m_storeE _ _ _ _ _ (by rw [h32, ofI_len, List.length_replicate]; omega), writeN_all _ _ (by rw [h32, ofI_len, List.length_replicate])], fun m => by rw [m_loadN, x_readAll _ 32 h32]⟩
theorem z32e : ofI .u8 (List.replicate 32 0) = [.int .u8 0, .int .u8 0, .int .u8 0, .int .u8 0, .int .u8 0, .int .u8 0, .int .u8 0, .int .u8 0, .int .u8 0, .int .u8 0, .int .u8 0, .int .u8 0, .int .u8 0, .int .u8 0, .int .u8 0, .int .u8 0, .int .u8 0, .int .u8 0, .int .u8 0, .int .u8 0, .int .u8 0, .int .u8 0, .int .u8 0, .int .u8 0, .int .u8 0, .int .u8 0, .int .u8 0, .int .u8 0, .int .u8 0, .int .u8 0, .int .u8 0, .int .u8 0] := rfl
def fc {α : Type} (n : Nat) (k : Nat → α) : α := match n with | 0 => k 0 | m + 1 => k (m + 1)
def wj (blk : List Nat) (j : Nat) : Nat := wnx blk (wsN blk j) j
theorem list8 (l : List Nat) (h : l.length = 8) : ∃ a b c d e f g i, l = [a, b, c, d, e, f, g, i] := by
  match l, h with
  | [a, b, c, d, e, f, g, i], _ => exact ⟨_, _, _, _, _, _, _, _, rfl⟩
def fold64 (st : List Nat) : Nat → List Nat → List Nat
  | 0, _ => st
  | n + 1, m => fold64 (mixV st (m.take 64)) n (m.drop 64)
theorem fold64_len (st : List Nat) : ∀ n m, st.length = 8 → (fold64 st n m).length = 8 := by
  intro n
  induction n generalizing st with
  | zero => intro m h; exact h
  | succ n ih => intro m h; exact ih _ _ (by rw [mixV_len]; exact h)
theorem absorb_fold : ∀ (n : Nat) (s : Sm) (m : List Nat), SmOk s → s.len % 64 = 0 → m.length = 64 * n → (absorb s m).st = fold64 s.st n m := by
  intro n
  induction n with
  | zero => intro s m ok h hm; obtain rfl : m = [] := List.length_eq_zero_iff.1 (by omega); rfl
  | succ n ih =>
    intro s m ok h hm
    have ht : (m.take 64).length = 64 := by rw [List.length_take]; omega
    have e1 : absorb s m = absorb (absorb s (m.take 64)) (m.drop 64) := by rw [← absorb_app, List.take_append_drop]
    have c := absorb_chunk s (m.take 64) ok.2.1 (by omega) (by intro h; rw [h] at ht; simp at ht)
    have ok2 := absorb_ok (m.take 64) s ok
    rw [h, ht] at c
    rw [if_pos (by omega)] at c
    simp only [List.take_zero, List.nil_append, Nat.zero_add] at c
    rw [List.drop_eq_nil_of_le (by have := ok.2.1; omega), List.append_nil] at c
    rw [e1, ih _ _ ok2 (by rw [c]; simp only; omega) (by rw [List.length_drop]; omega), c]
    rfl
def be8 (v : Nat) : List Nat := [v / 2 ^ 56 % 256, v / 2 ^ 48 % 256, v / 2 ^ 40 % 256, v / 2 ^ 32 % 256, v / 2 ^ 24 % 256, v / 2 ^ 16 % 256, v / 2 ^ 8 % 256, v / 2 ^ 0 % 256]
theorem padV_eq (len : Nat) : padV len = 128 :: (List.replicate (padSz len - 9) 0 ++ be8 (len * 8 % 18446744073709551616)) := by
  have hb := padSz_b len
  obtain ⟨m, hm⟩ : ∃ m, padSz len = m + 9 := ⟨padSz len - 9, by omega⟩
  have h0 : padN len 0 = 128 :: (List.replicate m 0 ++ [0, 0, 0, 0, 0, 0, 0, 0]) := by
    unfold padN; rw [hm, show m + 9 - 1 = m + 8 by omega, ← List.replicate_append_replicate]; rfl
  have st : ∀ (i : Nat) (l : List Nat) (v : Nat), i < 8 → l.length = 8 → (128 :: (List.replicate m 0 ++ l)).set (padSz len - 1 - i) v = 128 :: (List.replicate m 0 ++ l.set (7 - i) v) := by
    intro i l v hi hl
    rw [hm, show m + 9 - 1 - i = (m + (7 - i)) + 1 by omega, List.set_cons_succ, List.set_append_right _ _ (by simp), List.length_replicate, Nat.add_sub_cancel_left]
  unfold padV
  simp only [padN] at h0 ⊢
  rw [h0, st 0 _ _ (by omega) rfl, st 1 _ _ (by omega) rfl, st 2 _ _ (by omega) rfl, st 3 _ _ (by omega) rfl, st 4 _ _ (by omega) rfl, st 5 _ _ (by omega) rfl, st 6 _ _ (by omega) rfl, st 7 _ _ (by omega) rfl, hm, Nat.add_sub_cancel]
  rfl
def padL (n : Nat) : List Nat := 128 :: (List.replicate (padSz n - 9) 0 ++ be8 (n * 8 % 18446744073709551616))
theorem fm_len (l : List Nat) : (l.flatMap be4).length = 4 * l.length := by
  induction l with
  | nil => rfl
  | cons a r ih => rw [List.flatMap_cons, List.length_append, ih, List.length_cons]; simp only [be4, List.length_cons, List.length_nil]; omega
theorem outN_eq (st : List Nat) (h : st.length = 8) : ∀ i, i ≤ 8 → outN st i = (st.take i).flatMap be4 ++ List.replicate (32 - 4 * i) 0 := by
  intro i
  induction i with
  | zero => intro _; rfl
  | succ i ih =>
    intro hi
    have hl : ((st.take i).flatMap be4).length = 4 * i := by rw [fm_len, List.length_take]; omega
    have hs : st.take (i + 1) = st.take i ++ [st.getD i 0] := by
      rw [List.take_add_one, List.getD_eq_getElem?_getD]
      rw [List.getElem?_eq_getElem (by omega)]; rfl
    unfold outN
    rw [ih (by omega), List.take_left' hl, List.drop_append, hl, List.drop_eq_nil_of_le (by omega), List.nil_append, List.drop_replicate, hs, List.flatMap_append]
    simp only [List.flatMap_cons, List.flatMap_nil, List.append_nil]
    congr 2; omega
theorem hashV_eq (st : List Nat) (h : st.length = 8) : hashV st = st.flatMap be4 := by
  unfold hashV
  rw [outN_eq st h 8 (by omega), List.take_of_length_le (by omega)]; simp
theorem padSz_mod (n : Nat) : (n + padSz n) % 64 = 0 := by unfold padSz; split <;> omega
noncomputable def srcE (b : Option Blk) (off len esz : Nat) : Option (Nat × List V) := match b with
  | some (.cells vs _) => match readN vs off (len * esz) with | some l => some (len, l) | none => none
  | _ => none
@[congr] theorem srcE_congr {b b' : Option Blk} {off len esz : Nat} (e : b = b') : srcE b off len esz = srcE b' off len esz := by rw [e]
theorem m_src (h : H) (esz i off len : Nat) (c : Option Nat) (e : Nat) : srcCells h esz (.slice (some (i, off)) (len + 1) c e) = srcE (h.get i) off (len + 1) esz := by
  unfold srcCells srcE cellsAt
  simp only
  cases h.get i with
  | none => rfl
  | some b => cases b <;> rfl
theorem m_src0 (h : H) (esz : Nat) (a : Option (Nat × Nat)) (c : Option Nat) (e : Nat) : srcCells h esz (.slice a 0 c e) = some (0, []) := by
  unfold srcCells
  cases a <;> rfl
theorem srcI (k : IntKind) (off n : Nat) (l : List Nat) (m : Md) (h : off + n ≤ l.length) : srcE (some (.cells (ofI k l) m)) off n 1 = some (n, ofI k ((l.drop off).take n)) := by
  unfold srcE
  simp only [Nat.mul_one, readN_of _ _ _ (show off + n ≤ (ofI k l).length by rw [ofI_len]; exact h), ofI_drop, ofI_take]
theorem wr1I (k : IntKind) (a : List Nat) (off v : Nat) (h : off < a.length) : writeN (ofI k a) off [.int k (v : Int)] = ofI k (a.set off v) := by
  rw [writeN_set _ _ _ (by rw [ofI_len]; exact h), ofI_set]
theorem st32 (h : H) (i o : Nat) (l : List Nat) (hl : l.length = 32) : storeV h 32 (.ptr (some (i, o))) (.agg (ofI .u8 l)) = storeE (h.get i) h i o (ofI .u8 l) := m_storeA h 32 i o _ (by rw [ofI_len, hl, plain_ofI]; rfl)
theorem wrAll (k : IntKind) (z b : List Nat) (h : z.length = b.length) : writeN (ofI k z) 0 (ofI k b) = ofI k b := writeN_all _ _ (by rw [ofI_len, ofI_len, h])
theorem take_all (l : List Nat) (n : Nat) (h : l.length ≤ n) : l.take n = l := List.take_of_length_le h
noncomputable def appF (b : Option Blk) (h : H) (off sl : Nat) (n : Nat) (new : List V) : Option (V × H) := match b with
  | some (.cells vs m) => match readN vs off (sl * 1) with
    | some old => some (.slice (some (h.next, 0)) (sl + n) none 1, h.new (.cells (old ++ new) .rw))
    | none => none
  | _ => none
@[congr] theorem appF_congr {b b' : Option Blk} {h : H} {off sl n : Nat} {new : List V} (e : b = b') : appF b h off sl n new = appF b' h off sl n new := by rw [e]
theorem s_append (Q : Orc) (T : Tr V) (h : H) (esz bytes : Nat) (s x : O) : Eng.step (.append esz bytes s x) Q T h = appendC h esz bytes (evO T s) (srcCells h esz (evO T x)) := _root_.id rfl
noncomputable def appU (b : Option Blk) (h : H) (i sl : Nat) (n : Nat) (new : List V) : Option (V × H) := match b with
  | some (.cells vs m) => match m with
    | .ro => none
    | m => match readN vs 0 (sl * 1) with
      | some old => some (.slice (some (h.next, 0)) (sl + n) none 1, (h.del i).new (.cells (old ++ new) .sh))
      | none => none
  | _ => none
@[congr] theorem appU_congr {b b' : Option Blk} {h : H} {i sl n : Nat} {new : List V} (e : b = b') : appU b h i sl n new = appU b' h i sl n new := by rw [e]
theorem appU_of (h : H) (i sl n : Nat) (k : IntKind) (l : List Nat) (hs : sl + (n + 1) ≤ 35184372088832) : appendC h 1 1 (.slice (some (i, 0)) sl none 1) (some (n + 1, ofI k l)) = appU (h.get i) h i sl (n + 1) (ofI k l) := by
  unfold appendC appU
  simp only
  have r : (roomy (sl + (n + 1)) 1 && (Nat.beq 1 1 || (some (i, 0) : Option (Nat × Nat)).isNone) && (ofI k l).all plainV) = true := by
    rw [plain_ofI]; simp [roomy]; omega
  have f : fullC none (sl + (n + 1)) = false := rfl
  rw [r]
  simp only [_root_.cond_true]
  cases h.get i with
  | none => rfl
  | some b =>
    cases b with
    | cells vs m => simp only [f]; cases m <;> rfl
    | loop => rfl
    | defers => rfl
theorem appUI (k : IntKind) (l new : List Nat) (m : Md) (hm : isRo m = false) (h : H) (i sl n : Nat) (hl : sl ≤ l.length) : appU (some (.cells (ofI k l) m)) h i sl n (ofI k new) = some (.slice (some (h.next, 0)) (sl + n) none 1, (h.del i).new (.cells (ofI k (l.take sl ++ new)) .sh)) := by
  have r := readN_of (ofI k l) 0 sl (by rw [ofI_len]; omega)
  unfold appU
  cases m with
  | ro => cases hm
  | rw => simp only [Nat.mul_one, r, List.drop_zero, ofI_take, ofI_app]
  | sh => simp only [Nat.mul_one, r, List.drop_zero, ofI_take, ofI_app]
theorem app0 (h : H) (n e : Nat) (k : IntKind) (l : List Nat) (c : Option Nat) (hs : n + 1 ≤ 35184372088832) : appendC h 1 1 (.slice none 0 c e) (some (n + 1, ofI k l)) = some (.slice (some (h.next, 0)) (n + 1) none 1, h.new (.cells (ofI k l) .rw)) := by
  unfold appendC
  simp only
  have r : (roomy (0 + (n + 1)) 1 && (Nat.beq e 1 || (none : Option (Nat × Nat)).isNone) && (ofI k l).all plainV) = true := by
    rw [plain_ofI]; simp [roomy]; omega
  rw [r]
  simp only [_root_.cond_true, Nat.zero_add]
theorem appN (h : H) (b : Option (Nat × Nat)) (n : Nat) (c : Option Nat) (e : Nat) (l : List V) : appendC h 1 1 (.slice b n c e) (some (0, l)) = some (.slice b n c e, h) := by
  unfold appendC; rfl
theorem slcB_nn (vs : List V) (m : Md) (n i off : Nat) (h : H) (hv : off + n ≤ vs.length) : slcB (some (.cells vs m)) n 1 i off none none h = some (.slice (some (i, off)) n (some n) 1, h) := by
  rw [x_slcB vs m n 1 i off 0 n none none h (by omega) rfl rfl]; simp
def dbE (r : Option (List V)) (k : List V → Option Ds) : Option Ds := match r with
  | some l => k l
  | none => none
@[congr] theorem dbE_congr {r r' : Option (List V)} {k : List V → Option Ds} (h : r = r') : dbE r k = dbE r' k := by rw [h]
theorem s_dbE (l : List V) (k : List V → Option Ds) : dbE (some l) k = k l := _root_.id rfl
theorem s_dBuildS {Q : Orc} {base : Nat} (d : Option Nat) (z : List V) (len esz : Nat) (ps : List (Nat × Nat × O)) (s : Nat) (r : List (Op × Cl)) (T : Tr V) (hb : H) (p : List (Nat × Blk)) (hi : List H) (c : List (A × Tr V × List (Nat × List Nat) × V)) :
    evDxl Q base ((⟨d, .buildS z len esz ps, none⟩, .Al s) :: r) ⟨T, hb, p, hi, c⟩ = dbE (fillV z (evP T ps)) fun l => evDxl Q base r ⟨putT T d (.slice (some (base + s, 0)) len (some len) esz), hb, (s, .cells l .rw) :: p, hi, c⟩ := by
  simp only [evDxl, evDx1, evD1, wanted]
  rw [x_buildS]
  cases fillV z (evP T ps) with
  | none => rfl
  | some l =>
    show (match (match ((⟨.e, base + s⟩ : H).new (.cells l .rw)).get (base + s) with | some b => some (Ds.mk (putT T d (.slice (some (base + s, 0)) len (some len) esz)) hb ((s, b) :: p) hi c) | none => none) with | some d => evDxl Q base r d | none => none) = _
    rw [h_new_same' _ _ rfl]
    rfl
noncomputable def nsE (b : Option Blk) (off len : Nat) : Option V := match b with
  | some (.cells vs _) => match readN vs off len with
    | some l => strO (bytesOf l)
    | none => none
  | _ => none
@[congr] theorem nsE_congr {off len : Nat} {b b' : Option Blk} (e : b = b') : nsE b off len = nsE b' off len := by rw [e]
theorem ns_b2s (Q : Orc) (T : Tr V) (h : H) (x : O) : Eng.step (.b2s x) Q T h = same h (b2sV h (evO T x)) := _root_.id rfl
theorem nx_bs1 (h : H) (i off n : Nat) (c : Option Nat) (e : Nat) : b2sV h (.slice (some (i, off)) (n + 1) c e) = nsE (h.get i) off (n + 1) := by
  unfold b2sV nsE cellsAt
  simp only
  cases h.get i with
  | none => rfl
  | some b => cases b <;> rfl
theorem bytesOf_I : ∀ (l : List Nat), (∀ x ∈ l, x < 256) → bytesOf (ofI .u8 l) = some l := by
  intro l
  induction l with
  | nil => intro _; rfl
  | cons a r ih =>
    intro h
    show (match bytesOf (ofI .u8 r) with | some l => some (a % 256 :: l) | none => none) = _
    rw [ih (fun x hx => h x (List.mem_cons_of_mem _ hx)), Nat.mod_eq_of_lt (h a (List.mem_cons_self ..))]
def byt (l : List Nat) : Bool := l.all (fun x => decide (x < 256))
theorem byt_iff {l : List Nat} : byt l = true ↔ ∀ x ∈ l, x < 256 := by simp [byt]
theorem strEq_dec : ∀ (a b : List Nat), strEq a b = decide (a = b) := by
  intro a
  induction a with
  | nil => intro b; cases b <;> rfl
  | cons x r ih =>
    intro b
    cases b with
    | nil => rfl
    | cons y s =>
      show (bif Nat.beq x y then strEq r s else false) = _
      by_cases h : x = y
      · subst h
        rw [show Nat.beq x x = true from Nat.beq_refl x, ih s]
        simp only [_root_.cond_true, List.cons.injEq, true_and]
      · have hb : Nat.beq x y = false := by
          cases hb : Nat.beq x y with
          | false => rfl
          | true => exact absurd (Nat.eq_of_beq_eq_true hb) h
        rw [hb]
        simp only [_root_.cond_false, List.cons.injEq, h, false_and, decide_false]
theorem vbeq_str (a : List Nat) : V.beq (.str a) (.str a) = true := by unfold V.beq; rw [strEq_dec]; simp
theorem b_seq (e : EqK) (h : H) (a b : List Nat) : binV .eql e h (.str a) (.str b) = some (.bool (decide (a = b))) := by
  rw [← strEq_dec]; rfl
theorem vbeq_I (k : IntKind) : ∀ l : List Nat, V.beq (.agg (ofI k l)) (.agg (ofI k l)) = true := by
  have : ∀ l : List Nat, V.beqs (ofI k l) (ofI k l) = true := by
    intro l
    induction l with
    | nil => rfl
    | cons a r ih =>
      show (V.beq (.int k (a : Int)) (.int k (a : Int)) && V.beqs (ofI k r) (ofI k r)) = true
      rw [vbeq_int, ih]; rfl
  intro l
  show V.beqs (ofI k l) (ofI k l) = true
  exact this l
theorem vbeq_slice (a : Option (Nat × Nat)) (l : Nat) (c : Option Nat) (e : Nat) : V.beq (.slice a l c e) (.slice a l c e) = true := by unfold V.beq; simp
def aliveS : List V → Option V
  | [] => some (.bool true)
  | _ => none
theorem absA_nil {H : Type} (P : Program) (n nx : Nat) : absA (H := H) P n [] [] nx = some ([], [], nx) := rfl
theorem absA_cons {H : Type} {P : Program} {n : Nat} {t : TypeId} {ts : List TypeId} {d : DataW H} {ds : List (DataW H)} {nx n1 n2 : Nat} {vs avs : List V} {bl bl' : List (Nat × List V)} {av : V}
    (h1 : absD P n t d nx = some (vs, bl, n1)) (hv : argV P t vs = av) (h2 : absA P n ts ds n1 = some (avs, bl', n2)) : absA P n (t :: ts) (d :: ds) nx = some (av :: avs, bl ++ bl', n2) := by
  simp only [absA, h1, h2, hv]
theorem argV_arr {P : Program} {t e : TypeId} {n : Nat} (h : P.underlying t = some (.array n e)) (vs : List V) : argV P t vs = .agg vs := by unfold argV; rw [h]
theorem argV_slc {P : Program} {t e : TypeId} (h : P.underlying t = some (.slice e)) (v : V) : argV P t [v] = v := by unfold argV; rw [h]
theorem absL_I {H : Type} (P : Program) (e n : Nat) (he : P.underlying e = some (.int .u8)) (nx : Nat) : ∀ (s : List Nat), absL (absD (H := H) P (n + 1) e) (s.map fun (x : Nat) => .lit (.int .u8 (x : Int))) nx = some (ofI .u8 s, [], nx) := by
  intro s
  induction s with
  | nil => rfl
  | cons a r ih =>
    simp only [List.map_cons, absL]
    have : absD (H := H) P (n + 1) e (.lit (.int .u8 (a : Int))) nx = some ([.int .u8 (a : Int)], [], nx) := by simp only [absD, he]
    rw [this]
    simp only [ih]
    rfl
theorem lits_u8 {H : Type} {xs : List (DataW H × List MemPlace)} (go : ∀ x ∈ xs, ∃ b : Nat, x.1 = .lit (.int .u8 (b : Int)) ∧ b < 256) : ∃ s : List Nat, xs.map (·.1) = s.map (fun (x : Nat) => DataW.lit (.int .u8 (x : Int))) ∧ byt s = true ∧ s.length = xs.length := by
  induction xs with
  | nil => exact ⟨[], rfl, rfl, rfl⟩
  | cons x r ih =>
    obtain ⟨s, q1, q2, q3⟩ := ih (fun y hy => go y (List.mem_cons_of_mem _ hy))
    obtain ⟨b, b1, b2⟩ := go x (List.mem_cons_self ..)
    refine ⟨b :: s, by simp only [List.map_cons, b1, q1], ?_, by simp [q3]⟩
    rw [byt_iff] at q2 ⊢
    intro y hy
    rcases List.mem_cons.1 hy with rfl | hy
    · exact b2
    · exact q2 y hy
section
variable {H : Type} {enc : TypeId × Value → H} {P : Program} {W : World} {spare : Nat → Bool} {held : Bool} {base : Nat}
theorem trod_hash {t e : TypeId} {N : Nat} (ht : P.underlying t = some (.array N e)) (he : P.underlying e = some (.int .u8)) {v : Value} {d : DataW H} {p : List MemPlace} (h : DataW.Trod enc P W base spare held t v d p) :
    ∃ s : List Nat, s.length = N ∧ byt s = true ∧ ∀ n nx, absD P (n + 2) t d nx = some (ofI .u8 s, [], nx) := by
  obtain ⟨f, hf⟩ := h
  obtain ⟨xs, m, _, hx, _, hl, hi⟩ := DataW.trod_array ht hf
  have go : ∀ x ∈ xs, ∃ b : Nat, x.1 = .lit (.int .u8 (b : Int)) ∧ b < 256 := by
    intro x hxm
    obtain ⟨i, hi1, hi2⟩ := List.getElem_of_mem hxm
    have hi3 : xs[i]? = some x := by rw [List.getElem?_eq_getElem hi1, hi2]
    obtain ⟨n, _, e1, w⟩ := DataW.trod_int he ((hi i (by omega)).trans hi3)
    simp [Lit.wf, IntKind.min, IntKind.max, IntKind.signed, IntKind.bits] at w
    obtain ⟨b, rfl⟩ := Int.eq_ofNat_of_zero_le w.1
    exact ⟨b, by rw [e1], by omega⟩
  obtain ⟨s, s1, s2, s3⟩ := lits_u8 go
  refine ⟨s, by omega, s2, fun n nx => ?_⟩
  have ed : d = .agg (s.map fun (x : Nat) => .lit (.int .u8 (x : Int))) := by
    have := congrArg Prod.fst hx
    simp only at this
    rw [this, s1]
  rw [ed]
  unfold absD
  rw [ht]
  exact absL_I P e n he nx s
def Lay (bl : List (Nat × List V)) (a : Option (Nat × Nat)) (l : List Nat) (lo hi : Nat) : Prop :=
  lo ≤ hi ∧ ((l = [] ∧ ∀ x ∈ bl, lo ≤ x.1 ∧ x.1 < hi) ∨ (a = some (lo, 0) ∧ bl = [(lo, ofI .u8 l)] ∧ lo < hi))
theorem absD_slc' (n : Nat) {t e : TypeId} (ht : P.underlying t = some (.slice e)) (A B : List (DataW H)) (nx : Nat) : absD P (n + 1) t (.slice A B) nx = (match absL (absD P n e) A (nx + 1) with
    | none => none
    | some (vs, bl, n1) => match A.length + B.length with
      | 0 => some ([.slice (some (nx, 0)) 0 none (P.cellsOf e)], [], n1)
      | _ + 1 => some ([.slice (some (nx, 0)) A.length none (P.cellsOf e)], (nx, vs) :: bl, n1)) := by
  unfold absD
  rw [ht]
  rfl
end
theorem mkB_skip : ∀ (bl r : List (Nat × List V)) (i : Nat), (∀ x ∈ bl, x.1 ≠ i) → (mkB (bl ++ r)).get i = (mkB r).get i := by
  intro bl
  induction bl with
  | nil => intro r i _; rfl
  | cons x s ih =>
    intro r i h
    show ((mkB (s ++ r)).set x.1 _).get i = _
    rw [Tr.get_set, if_neg (h x (List.mem_cons_self ..)), ih r i (fun y hy => h y (List.mem_cons_of_mem _ hy))]
theorem mkB_hit (k : Nat) (v : List V) (r : List (Nat × List V)) : (mkB ((k, v) :: r)).get k = some (.cells v .ro) := by
  show ((mkB r).set k _).get k = _
  rw [Tr.get_set, if_pos rfl]
theorem Lay.src {pre bl post : List (Nat × List V)} {a : Option (Nat × Nat)} {l : List Nat} {lo hi nx : Nat} (L : Lay bl a l lo hi) (hp : ∀ x ∈ pre, x.1 < lo) (hn : hi ≤ nx) : SrcH (mkH (pre ++ (bl ++ post)) nx) a 1 l := by
  obtain ⟨hle, h | ⟨ha, hb, hlt⟩⟩ := L
  · exact .inl h.1
  · refine .inr ⟨lo, 0, ofI .u8 l, .ro, ha, rfl, by show lo < nx; omega, ?_, by rw [ofI_len]; omega, by rw [List.drop_zero]; exact List.take_of_length_le (by rw [ofI_len]; exact Nat.le_refl _)⟩
    show (mkB (pre ++ (bl ++ post))).get lo = _
    rw [mkB_skip _ _ _ (fun x hx => Nat.ne_of_lt (hp x hx)), hb]
    exact mkB_hit _ _ _
theorem slcV_lhA (n m b : Nat) (a : Option (Nat × Nat)) (k k' : IntKind) (hb : b ≤ n) (hm : m ≤ b) : slcV 1 (some (.int k (m : Int))) (some (.int k' (b : Int))) none (.slice a n none 1) = some (.slice (upA a m) (b - m) none 1) := by
  unfold slcV
  simp only [Nat.beq_refl, Bool.true_or, _root_.cond_true, Option.getD_none, x_bnd _ _ _ _ hb, x_bnd _ _ _ _ hm, Nat.mul_one]
  rfl
theorem SrcH.take {h : H} {a : Option (Nat × Nat)} {e : Nat} {l : List Nat} (s : SrcH h a e l) (n : Nat) : SrcH h a e (l.take n) := by
  rcases s with h | ⟨bi, off, vs, m, h1, h2, h3, h4, h5, h6⟩
  · left; rw [h]; simp
  · right
    refine ⟨bi, off, vs, m, h1, h2, h3, h4, by rw [List.length_take]; omega, ?_⟩
    rw [List.length_take, ← List.take_take, h6, ofI_take]
theorem SrcH.drop {h : H} {a : Option (Nat × Nat)} {e : Nat} {l : List Nat} (s : SrcH h a e l) (n : Nat) : SrcH h (upA a n) e (l.drop n) := by
  rcases s with h | ⟨bi, off, vs, m, h1, h2, h3, h4, h5, h6⟩
  · left; rw [h]; simp
  · by_cases hn : n < l.length
    · right
      refine ⟨bi, off + n, vs, m, by rw [h1]; rfl, h2, h3, h4, by rw [List.length_drop]; omega, ?_⟩
      rw [List.length_drop, ← List.drop_drop, ← List.drop_take, h6, ofI_drop]
    · left; exact List.drop_eq_nil_of_le (by omega)
def SumAt (h : H) (p : Nat) (s : Sm) : Prop := p < h.next ∧ h.get p = some (.cells (sumC s.st s.blk s.len) .rw)
theorem SumAt.kp {h h' : H} {p : Nat} {s : Sm} (a : SumAt h p s) (k : Kp h h') : SumAt h' p s := ⟨Nat.lt_of_lt_of_le a.1 k.1, by rw [k.2 _ a.1, a.2]⟩
theorem SumAt.kq {h h' : H} {p q : Nat} {s : Sm} (a : SumAt h p s) (k : Kq q h h') (hn : p ≠ q) : SumAt h' p s := ⟨Nat.lt_of_lt_of_le a.1 k.1, by rw [k.2 _ a.1 hn, a.2]⟩
theorem orr_comm (a b : Nat) : orr a b = orr b a := Nat.or_comm _ _
theorem SrcH.cellz {h : H} {a : Option (Nat × Nat)} {l : List Nat} {ez : Nat} (s : SrcH h a ez l) (c : Option Nat) : srcCells h 1 (.slice a l.length c ez) = some (l.length, ofI .u8 l) := by
  cases hn : l.length with
  | zero => rw [List.length_eq_zero_iff.1 hn]; exact m_src0 _ _ _ _ _
  | succ n =>
    rcases s with rfl | ⟨bi, off, vs, m, rfl, _, h3, h4, h5, h6⟩
    · cases hn
    · rw [m_src, h4]
      unfold srcE
      rw [hn] at h5 h6
      simp only [Nat.mul_one, readN_of _ _ _ h5, h6]
theorem app1 (h : H) (i sl : Nat) (v : Nat) (cur : List Nat) (md : Md) (hm : isRo md = false) (hg : h.get i = some (.cells (ofI .u8 cur) md)) (hl : cur.length = sl) (hs : sl ≤ 100000000) : appendC h 1 1 (.slice (some (i, 0)) sl none 1) (some (1, [.int .u8 (v : Int)])) = some (.slice (some (h.next, 0)) (sl + 1) none 1, (h.del i).new (.cells (ofI .u8 (cur ++ [v])) .sh)) := by
  have := appU_of h i sl 0 .u8 [v] (by omega)
  rw [hg, appUI _ _ _ _ hm _ _ _ _ (by omega), take_all cur _ (by omega)] at this
  exact this
theorem src1 (h : H) (v : Nat) : srcCells (h.new (.cells [.int .u8 (v : Int)] .rw)) 1 (.slice (some (h.next, 0)) 1 (some 1) 1) = some (1, [.int .u8 (v : Int)]) := by
  rw [m_src, h_new_same]; rfl
structure RI2 (h0 : H) (l : List Nat) (i : Nat) (T : Tr V) (h : H) : Prop where
  il : i ≤ padSz l.length - 9
  t0 : ∃ a c e, evO T (.t 0) = .slice a l.length c e
  t3 : ∃ p md, evO T (.t 3) = .slice (some (p, 0)) (l.length + 1 + i) none 1 ∧ h.get p = some (.cells (ofI .u8 (l ++ 128 :: List.replicate i 0)) md) ∧ isRo md = false ∧ h0.next ≤ p ∧ p < h.next
  kp : Kp h0 h
def be8N (v : Nat) : Nat → List Nat
  | 0 => []
  | i + 1 => be8N v i ++ [v / 2 ^ (56 - 8 * i) % 256]
theorem be8N_len (v i : Nat) : (be8N v i).length = i := by
  induction i with
  | zero => rfl
  | succ i ih => simp [be8N, ih]
structure RI3 (h0 : H) (base : List Nat) (v : Nat) (i : Nat) (T : Tr V) (h : H) : Prop where
  i8 : i ≤ 8
  t4 : evO T (.t 4) = .int .u64 (v : Int)
  t5 : evO T (.t 5) = .int .i64 (i : Int)
  t3 : ∃ p md, evO T (.t 3) = .slice (some (p, 0)) (base.length + i) none 1 ∧ h.get p = some (.cells (ofI .u8 (base ++ be8N v i)) md) ∧ isRo md = false ∧ h0.next ≤ p ∧ p < h.next
  kp : Kp h0 h
theorem shl_or (a b k : Nat) (hb : b < 2 ^ k) : Nat.lor (a * 2 ^ k) b = a * 2 ^ k + b := by
  have := Nat.shiftLeft_add_eq_or_of_lt hb a
  rw [Nat.shiftLeft_eq] at this
  exact this.symm
theorem word_eq (a b c d : Nat) (ha : a < 256) (hb : b < 256) (hc : c < 256) (hd : d < 256) :
    ad (ad (ad (sl (a % 4294967296) 24) (sl (b % 4294967296) 16)) (sl (c % 4294967296) 8)) (d % 4294967296) = orr (orr (orr (sl (a % 4294967296) 24) (sl (b % 4294967296) 16)) (sl (c % 4294967296) 8)) (d % 4294967296) := by
  have e1 : orr (sl (a % 4294967296) 24) (sl (b % 4294967296) 16) = (a * 256 + b) * 2 ^ 16 := by
    have := shl_or a (b * 2 ^ 16) 24 (by omega)
    unfold orr sl
    rw [Nat.mod_eq_of_lt (show a < 4294967296 by omega), Nat.mod_eq_of_lt (show b < 4294967296 by omega), Nat.mod_eq_of_lt (show a * 2 ^ 24 < 4294967296 by omega), Nat.mod_eq_of_lt (show b * 2 ^ 16 < 4294967296 by omega), Nat.mod_eq_of_lt (show a * 2 ^ 24 < 4294967296 by omega), Nat.mod_eq_of_lt (show b * 2 ^ 16 < 4294967296 by omega), this]
    omega
  have e2 : orr (orr (sl (a % 4294967296) 24) (sl (b % 4294967296) 16)) (sl (c % 4294967296) 8) = ((a * 256 + b) * 256 + c) * 2 ^ 8 := by
    rw [e1]
    have := shl_or (a * 256 + b) (c * 2 ^ 8) 16 (by omega)
    unfold orr sl
    rw [Nat.mod_eq_of_lt (show c < 4294967296 by omega), Nat.mod_eq_of_lt (show c * 2 ^ 8 < 4294967296 by omega), Nat.mod_eq_of_lt (show (a * 256 + b) * 2 ^ 16 < 4294967296 by omega), Nat.mod_eq_of_lt (show c * 2 ^ 8 < 4294967296 by omega), this]
    omega
  have e3 : orr (orr (orr (sl (a % 4294967296) 24) (sl (b % 4294967296) 16)) (sl (c % 4294967296) 8)) (d % 4294967296) = ((a * 256 + b) * 256 + c) * 256 + d := by
    rw [e2]
    have := shl_or ((a * 256 + b) * 256 + c) d 8 (by omega)
    unfold orr
    rw [Nat.mod_eq_of_lt (show d < 4294967296 by omega), Nat.mod_eq_of_lt (show ((a * 256 + b) * 256 + c) * 2 ^ 8 < 4294967296 by omega), Nat.mod_eq_of_lt (show d < 4294967296 by omega), this]
  rw [e3]
  unfold ad sl
  omega
structure WI (mq wq : Nat) (m : List Nat) (at_ : Nat) (h0 : H) (i : Nat) (T : Tr V) (h : H) : Prop where
  i64 : i ≤ 64
  t5 : evO T (.t 5) = .slice (some (mq, 0)) m.length none 1
  t6 : evO T (.t 6) = .int .i64 (at_ : Int)
  t7 : evO T (.t 7) = .slice (some (wq, 0)) 64 (some 64) 1
  gw : h.get wq = some (.cells (wCells ((m.drop at_).take 64) i) .rw)
  eq : Eqx wq h0 h
structure Keep4 (hq kq : Nat) (T : Tr V) : Prop where
  t2 : evO T (.t 2) = evO T (.t 2)
  t3 : evO T (.t 3) = .slice (some (hq, 0)) 8 (some 8) 1
  t4 : evO T (.t 4) = .slice (some (kq, 0)) 64 (some 64) 1
structure RR (mq wq ml : Nat) (at_ : Nat) (ws : List Nat) (s : S8) (h0 : H) (i : Nat) (T : Tr V) (h : H) : Prop where
  i64 : i ≤ 64
  t5 : evO T (.t 5) = .slice (some (mq, 0)) ml none 1
  t6 : evO T (.t 6) = .int .i64 (at_ : Int)
  t7 : evO T (.t 7) = .slice (some (wq, 0)) 64 (some 64) 1
  t13 : evO T (.t 13) = .int .i64 (i : Int)
  t12 : ∃ p c md, evO T (.t 12) = .slice (some (p, 0)) 8 c 1 ∧ h.get p = some (.cells (ofI .u32 (s8l (rnds ws s i))) md) ∧ h0.next ≤ p ∧ p < h.next
  kp : Kp h0 h
structure RA (mq ml at_ hq kq p r : Nat) (c : Option Nat) (vs st : List Nat) (h0 : H) (i : Nat) (T : Tr V) (h : H) : Prop where
  i8 : i ≤ 8
  t2 : evO T (.t 2) = .ptr (some (r, 0))
  t3 : evO T (.t 3) = .slice (some (hq, 0)) 8 (some 8) 1
  t4 : evO T (.t 4) = .slice (some (kq, 0)) 64 (some 64) 1
  t5 : evO T (.t 5) = .slice (some (mq, 0)) ml none 1
  t6 : evO T (.t 6) = .int .i64 (at_ : Int)
  t12 : evO T (.t 12) = .slice (some (p, 0)) 8 c 1
  t16 : evO T (.t 16) = .int .i64 (i : Int)
  gh : h.get hq = some (.cells (ofI .u32 (updN st vs i)) .rw)
  eq : Eqx hq h0 h
structure RO (mq hq kq r : Nat) (m st0 : List Nat) (md : Md) (h0 : H) (j : Nat) (T : Tr V) (h : H) : Prop where
  jl : 64 * j ≤ m.length
  t2 : evO T (.t 2) = .ptr (some (r, 0))
  t3 : evO T (.t 3) = .slice (some (hq, 0)) 8 (some 8) 1
  t4 : evO T (.t 4) = .slice (some (kq, 0)) 64 (some 64) 1
  t5 : evO T (.t 5) = .slice (some (mq, 0)) m.length none 1
  t6 : evO T (.t 6) = .int .i64 ((64 * j : Nat) : Int)
  gh : h.get hq = some (.cells (ofI .u32 (fold64 st0 j m)) .rw)
  kq' : Kq hq h0 h
theorem fold64_succ (st m : List Nat) : ∀ j, fold64 st (j + 1) m = mixV (fold64 st j m) ((m.drop (64 * j)).take 64) := by
  intro j
  induction j generalizing st m with
  | zero => simp [fold64]
  | succ j ih =>
    show fold64 (mixV st (m.take 64)) (j + 1) (m.drop 64) = _
    rw [ih]
    show _ = mixV (fold64 (mixV st (m.take 64)) j (m.drop 64)) _
    rw [List.drop_drop, show 64 + 64 * j = 64 * (j + 1) by omega]
theorem mks4 (h : H) : mksE [.int .u32 0] 4 (.int .i64 64) (.int .i64 64) h = some (.slice (some (h.next, 0)) 64 (some 64) 1, h.new (.cells (List.replicate 64 (.int .u32 0)) .rw)) := by
  unfold mksE
  show (bif Nat.ble 64 64 && roomy 64 4 then _ else _) = _
  rfl
theorem app0_4 (h : H) (l : List Nat) (hl : l.length = 8) (c : Option Nat) (e : Nat) : appendC h 1 4 (.slice none 0 c e) (some (8, ofI .u32 l)) = some (.slice (some (h.next, 0)) 8 none 1, h.new (.cells (ofI .u32 l) .rw)) := by
  unfold appendC
  simp only
  have r : (roomy (0 + 8) 4 && (Nat.beq e 1 || (none : Option (Nat × Nat)).isNone) && (ofI .u32 l).all plainV) = true := by
    rw [plain_ofI]; simp [roomy]
  rw [r]
  simp only [_root_.cond_true, Nat.zero_add]
theorem str_src {h : H} {a : Option (Nat × Nat)} {l : List Nat} {ez : Nat} (src : SrcH h a ez l) (bl : byt l = true) (c : Option Nat) : b2sV h (.slice a l.length c ez) = some (.str l) := by
  rcases src with rfl | ⟨bi, off, vs, m, rfl, rfl, h3, h4, h5, h6⟩
  · cases a <;> rfl
  · cases hn : l.length with
    | zero => rw [List.length_eq_zero_iff.1 hn]; rfl
    | succ n =>
      rw [nx_bs1, h4]
      unfold nsE
      rw [hn] at h5 h6
      simp only [readN_of _ _ _ h5, h6, bytesOf_I _ (byt_iff.1 bl)]
      rfl
end Go.Eng
