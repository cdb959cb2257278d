/- The evaluator by which closed calls are run, part B: own work.
-/
import Derived.Test.YtfopajklnakmpaaEngA
import GoSem.Dispatch
import Derived.Laws.Strings
import Derived.Laws.StructEq
set_option linter.unusedVariables false
set_option linter.unusedSimpArgs false
set_option linter.unusedSectionVars false
/-
  ENGINE, part 6: operations that look at their operands alone. Own work.
-/
namespace Go.Eng
open Go

variable {P : Program} {g : Gn} {μ : Mu} {sz : Sz} {w : World}

/-! ### Operands -/
theorem mapM_vOf {n : Nat} (ih : ∀ (v : Value) (a : V), vOf n v = some a → VR g μ sz a v) :
    ∀ (l : List Value) (m : List V), l.mapM (vOf n) = some m → VRs g μ sz m l := by
  intro l
  induction l with
  | nil => intro m h; simp at h; subst h; exact .nil
  | cons x l ihl =>
    intro m h
    rw [List.mapM_cons] at h
    cases hx : vOf n x with
    | none => simp [hx] at h
    | some a =>
      cases hl : l.mapM (vOf n) with
      | none => simp [hx, hl] at h
      | some m' =>
        simp [hx, hl] at h
        subst h
        exact .cons _ _ _ _ (ih _ _ hx) (ihl _ hl)
theorem vOf_ok : ∀ (n : Nat) (v : Value) (a : V), vOf n v = some a → VR g μ sz a v := by
  intro n
  induction n with
  | zero => intro v a h; simp [vOf] at h
  | succ n ih =>
    intro v a h
    unfold vOf at h
    split at h
    all_goals first
      | (cases h; exact .bool _)
      | (cases h; exact .int _ _)
      | (cases h; exact .str _ _ rfl)
      | (cases h; exact .ptrN)
      | (cases h; exact .slcN _ _ (by intro x hx; cases hx; rfl))
      | (cases h; exact .mapN)
      | (cases h; exact .nilFn)
      | (cases h; exact .nilIface)
      | (cases h; done)
      | skip
    · rename_i cs hn
      cases hn
      cases hl : cs.toList.mapM (vOf n) with
      | none => rw [hl] at h; cases h
      | some m => rw [hl] at h; cases h; exact .agg _ _ (mapM_vOf ih _ _ hl)
    · rename_i cs hn
      cases hn
      cases hl : cs.toList.mapM (vOf n) with
      | none => rw [hl] at h; cases h
      | some m => rw [hl] at h; cases h; exact .tup _ _ (mapM_vOf ih _ _ hl)

/-- the operands' values -/
def OR (g : Gn) (μ : Mu) (sz : Sz) (T : Tr V) (ρ : Operand → Value) : Prop := ∀ x y, oOf g.f x = some y → VR g μ sz (evO T y) (ρ x)

theorem OR.of_TR {T : Tr V} {tmps : Array Value} (h : TR g μ sz T tmps) (ρ : Operand → Value) (ht : ∀ t, ρ (.tmp t) = tmps.getD t undef) (hc : ∀ v, ρ (.const v) = v) (hf : ∀ f, ρ (.func f) = .func (.func f) #[] #[]) :
    OR g μ sz T ρ := by
  intro x y hxy
  cases x with
  | tmp t => cases hxy; rw [ht]; exact h t
  | const v =>
    simp only [oOf] at hxy
    cases hv : vOf 3 v with
    | none => rw [hv] at hxy; cases hxy
    | some a => rw [hv] at hxy; cases hxy; rw [hc]; exact vOf_ok 3 v a hv
  | global i => cases hxy
  | func f => cases hxy; rw [hf]; exact .fn _ _ _ _ _ _ rfl .nil .nil

theorem OR.list {T : Tr V} {ρ : Operand → Value} (h : OR g μ sz T ρ) : ∀ (l : List Operand) (m : List O), l.mapM (oOf g.f) = some m → VRs g μ sz (evOs T m) (l.map ρ) := by
  intro l
  induction l with
  | nil => intro m hm; simp at hm; subst hm; exact .nil
  | cons x l ih =>
    intro m hm
    rw [List.mapM_cons] at hm
    cases hx : oOf g.f x with
    | none => simp [hx] at hm
    | some a =>
      cases hl : l.mapM (oOf g.f) with
      | none => simp [hx, hl] at hm
      | some m' =>
        simp [hx, hl] at hm
        subst hm
        exact .cons _ _ _ _ (h _ _ hx) (ih _ hl)

/-! ### Types -/
theorem run_und {t : TypeId} {d : TypeDesc} (h : P.underlying t = some d) : (underlying t).run P w = .ok d w := by simp [underlying, h]
theorem run_szT {t : TypeId} {n : Nat} (h : sizeT P t = some n) : (sizeOf t).run P w = .ok n w := by
  unfold sizeT at h
  cases hi : P.info? t with
  | none => rw [hi] at h; cases h
  | some i => rw [hi] at h; cases h; simp [sizeOf, typeInfo, hi]
theorem zeroOf_ok {t : TypeId} {z : V} (h : zeroOf P t = some z) : ∃ x, (∀ w, (zeroValue t).run P w = .ok x w) ∧ VR g μ sz z x := by
  unfold zeroOf at h
  cases hi : P.info? t with
  | none => rw [hi] at h; cases h
  | some i =>
    rw [hi] at h
    simp only [Option.bind_some] at h
    cases hz : i.zero with
    | none => rw [hz] at h; cases h
    | some x => rw [hz] at h; exact ⟨x, fun w => by simp [zeroValue, typeInfo, hi, hz], vOf_ok 3 x z h⟩
theorem run_isAgg {t : TypeId} {b : Bool} (h : aggT P t = some b) : (isAgg t).run P w = .ok b w := by
  unfold aggT at h
  cases hu : P.underlying t with
  | none => rw [hu] at h; cases h
  | some d => rw [hu] at h; cases d <;> cases h <;> simp [isAgg, run_und hu]

/-! ### Values out of a row -/
theorem takeN_eq : ∀ (n : Nat) (l m : List V), takeN n l = some m → m = l.take n ∧ n ≤ l.length := by
  intro n
  induction n with
  | zero => intro l m h; cases h; simp
  | succ n ih =>
    intro l m h
    cases l with
    | nil => cases h
    | cons v r =>
      simp only [takeN] at h
      cases hr : takeN n r with
      | none => rw [hr] at h; cases h
      | some x => rw [hr] at h; cases h; have := ih r x hr; simp [this.1]; omega
theorem readN_eq {l m : List V} {off n : Nat} (h : readN l off n = some m) : m = (l.drop off).take n ∧ m.length = n := by
  have := takeN_eq _ _ _ h
  refine ⟨this.1, ?_⟩
  rw [this.1, List.length_take]
  omega
theorem part_ok {t : TypeId} {s : Option Nat} (hs : shapeN P t = some s) {cs : List V} {xs : Array Value} (hx : VRs g μ sz cs xs.toList) {off : Nat} {v : V} (h : partV cs off s = some v) :
    ∃ x, (part t xs off).run P w = .ok x w ∧ VR g μ sz v x := by
  unfold shapeN at hs
  cases ha : aggT P t with
  | none => rw [ha] at hs; cases hs
  | some b =>
    cases hz : sizeT P t with
    | none => rw [ha, hz] at hs; cases b <;> cases hs
    | some n =>
      rw [ha, hz] at hs
      cases b with
      | true =>
        cases hs
        simp only [partV] at h
        cases hr : readN cs off n with
        | none => rw [hr] at h; cases h
        | some l =>
          rw [hr] at h; cases h
          obtain ⟨he, hl⟩ := readN_eq hr
          refine ⟨.agg (xs.extract off (off + n)), by simp [part, run_isAgg ha, run_szT hz], .agg _ _ ?_⟩
          rw [Array.toList_extract, List.extract_eq_take_drop, Nat.add_sub_cancel_left, he]
          exact (hx.drop off).take n
      | false =>
        cases hs
        simp only [partV] at h
        obtain ⟨x, hx1, hx2⟩ := hx.get h
        refine ⟨x, ?_, hx2⟩
        have : xs[off]? = some x := by rw [← Array.getElem?_toList]; exact hx1
        simp [part, run_isAgg ha, this]

/-! ### Writing into a row -/
theorem length_writeN (vs : List V) : ∀ (off : Nat) (l : List V), off + l.length ≤ vs.length → (writeN vs off l).length = vs.length := by
  induction vs with
  | nil => intro off l h; cases off <;> simp [writeN] at h ⊢ <;> simp_all
  | cons v vs ih =>
    intro off l h
    cases off with
    | zero => simp [writeN] at h ⊢; omega
    | succ o => simp only [writeN, List.length_cons]; rw [ih o l (by simp at h; omega)]
theorem get_writeN (vs : List V) : ∀ (off : Nat) (l : List V) (j : Nat), off + l.length ≤ vs.length → (writeN vs off l)[j]? = if off ≤ j ∧ j < off + l.length then l[j - off]? else vs[j]? := by
  induction vs with
  | nil =>
    intro off l j h
    have h0 : off + l.length ≤ 0 := h
    have h1 : off = 0 := by omega
    have h2 : l = [] := List.length_eq_zero_iff.1 (by omega)
    subst h1; subst h2; simp [writeN]
  | cons v vs ih =>
    intro off l j h
    cases off with
    | zero =>
      simp only [writeN]
      by_cases hj : j < l.length
      · rw [List.getElem?_append_left hj]; simp [hj]
      · rw [List.getElem?_append_right (by omega), List.getElem?_drop]; simp [hj]; congr 1; omega
    | succ o =>
      simp only [writeN]
      cases j with
      | zero => simp
      | succ j =>
        have e : j + 1 - (o + 1) = j - o := by omega
        simp only [List.getElem?_cons_succ, e]
        rw [ih o l j (by simp at h; omega)]
        by_cases hc : o ≤ j ∧ j < o + l.length
        · rw [if_pos hc, if_pos (by omega)]
        · rw [if_neg hc, if_neg (by omega)]
theorem foldl_set (l : List Value) : ∀ (off k : Nat) (cs : Array Value), ((l.zipIdx k).foldl (fun cs (x : Value × Nat) => cs.setIfInBounds (off + x.2) x.1) cs).size = cs.size ∧
    ∀ j, ((l.zipIdx k).foldl (fun cs (x : Value × Nat) => cs.setIfInBounds (off + x.2) x.1) cs)[j]? = if off + k ≤ j ∧ j < off + k + l.length ∧ j < cs.size then l[j - (off + k)]? else cs[j]? := by
  induction l with
  | nil => intro off k cs; refine ⟨rfl, fun j => ?_⟩; rw [if_neg (by simp; omega)]; rfl
  | cons x l ih =>
    intro off k cs
    simp only [List.zipIdx_cons, List.foldl_cons]
    obtain ⟨h1, h2⟩ := ih off (k + 1) (cs.setIfInBounds (off + k) x)
    refine ⟨by rw [h1]; simp, fun j => ?_⟩
    rw [h2 j]
    simp only [Array.size_setIfInBounds, List.length_cons]
    by_cases hj : off + k = j
    · subst hj
      rw [if_neg (by omega)]
      by_cases hs : off + k < cs.size
      · rw [if_pos (by omega), Array.getElem?_setIfInBounds]; simp [hs]
      · rw [if_neg (by omega), Array.getElem?_setIfInBounds]; simp [hs]
    · rw [Array.getElem?_setIfInBounds_ne hj]
      by_cases hc : off + (k + 1) ≤ j ∧ j < off + (k + 1) + l.length ∧ j < cs.size
      · rw [if_pos hc, if_pos (by omega)]
        have : j - (off + k) = (j - (off + (k + 1))) + 1 := by omega
        rw [this, List.getElem?_cons_succ]
      · rw [if_neg hc, if_neg (by omega)]
theorem write_ok {cs : List V} {xs : Array Value} (hx : VRs g μ sz cs xs.toList) {l : List V} {m : Array Value} (hl : VRs g μ sz l m.toList) {off : Nat} (hb : off + l.length ≤ cs.length) :
    VRs g μ sz (writeN cs off l) (m.zipIdx.foldl (fun cs (x : Value × Nat) => cs.setIfInBounds (off + x.2) x.1) xs).toList := by
  have hlen := hx.length
  have hlm := hl.length
  have e : m.zipIdx.foldl (fun cs (x : Value × Nat) => cs.setIfInBounds (off + x.2) x.1) xs = (m.toList.zipIdx 0).foldl (fun cs (x : Value × Nat) => cs.setIfInBounds (off + x.2) x.1) xs := by
    rw [← Array.foldl_toList]; simp
  obtain ⟨h1, h2⟩ := foldl_set m.toList off 0 xs
  rw [e]
  generalize hR : (m.toList.zipIdx 0).foldl (fun cs (x : Value × Nat) => cs.setIfInBounds (off + x.2) x.1) xs = R at h1 h2
  have t1 : xs.toList.length = xs.size := Array.length_toList
  have t2 : m.toList.length = m.size := Array.length_toList
  have t3 : R.toList.length = R.size := Array.length_toList
  refine VRs.of_get (by rw [length_writeN _ _ _ hb]; omega) fun j v x hv hxj => ?_
  rw [get_writeN _ _ _ _ hb] at hv
  rw [Array.getElem?_toList, h2 j] at hxj
  simp only [Nat.add_zero] at hxj
  by_cases hc : off ≤ j ∧ j < off + l.length
  · rw [if_pos hc] at hv
    rw [if_pos (by omega)] at hxj
    obtain ⟨y, hy, hvr⟩ := hl.get hv
    rw [hy] at hxj; cases hxj; exact hvr
  · rw [if_neg hc] at hv
    rw [if_neg (by omega)] at hxj
    obtain ⟨y, hy, hvr⟩ := hx.get hv
    rw [Array.getElem?_toList] at hy
    rw [hy] at hxj; cases hxj; exact hvr
end Go.Eng

/-
  ENGINE, part 7: what looks at operands alone, value by value. Own work.
-/
namespace Go.Eng
open Go

variable {P : Program} {g : Gn} {μ : Mu} {sz : Sz} {w : World}

/-- what a pure operation comes to -/
def Gives (P : Program) (g : Gn) (μ : Mu) (sz : Sz) (w : World) (s : Sem Value) (v : V) : Prop := ∃ x, s.run P w = .ok x w ∧ VR g μ sz v x

theorem fill_ok {place : Nat → Option (Nat × Nat)} : ∀ (ps : List (Nat × Nat × V)) (qs : List (Nat × Value)) (cs l : List V) (xs : Array Value),
    VRs g μ sz cs xs.toList → fillV cs ps = some l → ps.length = qs.length →
    (∀ (j : Nat) p q, ps[j]? = some p → qs[j]? = some q → place q.1 = some (p.1, p.2.1) ∧ VR g μ sz p.2.2 q.2) →
    ∃ ys, Instr.fill place xs qs = some ys ∧ VRs g μ sz l ys.toList := by
  intro ps
  induction ps with
  | nil =>
    intro qs cs l xs hx hf hl _
    cases qs with
    | nil => cases hf; exact ⟨xs, rfl, hx⟩
    | cons => simp at hl
  | cons p ps ih =>
    intro qs cs l xs hx hf hl hp
    cases qs with
    | nil => simp at hl
    | cons q qs =>
      obtain ⟨off, size, v⟩ := p
      obtain ⟨i, x⟩ := q
      obtain ⟨hpl, hv⟩ := hp 0 (off, size, v) (i, x) rfl rfl
      simp only [fillV] at hf
      cases hc : (Nat.beq v.cells.length size && Nat.ble (off + size) cs.length) with
      | false => rw [hc] at hf; cases hf
      | true =>
        rw [hc] at hf
        simp only [Bool.and_eq_true, Nat.beq_eq, Nat.ble_eq] at hc
        have hv' : VR g μ sz v x := hv
        have hcv := VR.cells hv'
        have hlen := hcv.length
        have hlx := hx.length
        have t1 : x.cells.toList.length = x.cells.size := Array.length_toList
        have t2 : xs.toList.length = xs.size := Array.length_toList
        have hw := write_ok hx hcv (off := off) (by omega)
        obtain ⟨ys, hy, hr⟩ := ih qs _ l _ hw hf (by simpa using hl) (fun j p q h1 h2 => hp (j + 1) p q (by simpa using h1) (by simpa using h2))
        refine ⟨ys, ?_, hr⟩
        simp only [Instr.fill, hpl]
        rw [if_neg]
        · exact hy
        · simp only [Bool.or_eq_true, ne_eq, decide_eq_true_eq, not_or]
          exact ⟨by simp; omega, by omega⟩

theorem cond_true {α : Type} {b : Bool} {x : Option α} {a : α} (h : (bif b then x else none) = some a) : b = true ∧ x = some a := by
  cases b with
  | true => exact ⟨rfl, h⟩
  | false => cases h

theorem bnd_ok {v : Option V} {x : Option Value} {d m r : Nat} (hv : ∀ u, v = some u → ∃ y, x = some y ∧ VR g μ sz u y) (hn : v = none → x = none) (h : bnd v d m = some r) (m' : Nat) (hm : m ≤ m') (code : BoundsCode) :
    (v = none ∧ x = none ∧ r = d) ∨ (∃ y, x = some y ∧ (Instr.sliceBound y m' code).run P w = .ok r w ∧ r ≤ m) := by
  cases v with
  | none => cases h; exact .inl ⟨rfl, hn rfl, rfl⟩
  | some u =>
    obtain ⟨y, hy, hr⟩ := hv u rfl
    refine .inr ⟨y, hy, ?_⟩
    cases u with
    | int k i =>
      cases i with
      | negSucc n => cases h
      | ofNat n =>
        simp only [bnd] at h
        rw [cond_ble] at h
        split at h
        · rename_i hle
          cases h
          have hyy : y = .int k (.ofNat r) := by cases hr; rfl
          subst hyy
          refine ⟨?_, hle⟩
          have : (0 : Int) ≤ Int.ofNat r ∧ Int.ofNat r ≤ (m' : Int) := by constructor <;> simp; omega
          simp only [Instr.sliceBound, asIntOf, Sem.run_bind, Sem.run_pure, Result.andThen_ok]
          rw [if_pos this]; rfl
        · cases h
    | _ => cases h

theorem ints_ok {op : BinOp} {k : IntKind} {a b : Int} {v : V} (h : ints op k a b = some v) (hs : isEq op ≠ 2) (t : TypeId) :
    Gives P g μ sz w (binOp op t (.int k a) (.int k b)) v := by
  cases op <;> simp only [ints] at h <;> (try (exact absurd rfl hs)) <;> (try (cases h; done))
  case add => cases h; exact ⟨.int k (k.wrap (a + b)), by simp [binOp, Op.intArith], by rw [wr_eq]; exact .int _ _⟩
  case sub => cases h; exact ⟨.int k (k.wrap (a - b)), by simp [binOp, Op.intArith], by rw [wr_eq]; exact .int _ _⟩
  case mul => cases h; exact ⟨.int k (k.wrap (a * b)), by simp [binOp, Op.intArith], by rw [wr_eq]; exact .int _ _⟩
  case quo =>
    rw [ieq_eq] at h
    cases hb : (b == 0) with
    | true => rw [hb] at h; cases h
    | false =>
      rw [hb] at h; cases h
      have : ¬ b = 0 := by simpa using hb
      exact ⟨.int k (k.wrap (a.tdiv b)), by simp [binOp, Op.intDiv, this], by rw [wr_eq]; exact .int _ _⟩
  case rem =>
    rw [ieq_eq] at h
    cases hb : (b == 0) with
    | true => rw [hb] at h; cases h
    | false =>
      rw [hb] at h; cases h
      have : ¬ b = 0 := by simpa using hb
      exact ⟨.int k (a.tmod b), by simp [binOp, Op.intDiv, this], .int _ _⟩
  case and =>
    cases h; refine ⟨.int k (k.wrap (BitVec.ofInt k.bits a &&& BitVec.ofInt k.bits b).toNat), by simp [binOp, Op.intBits], ?_⟩
    rw [asK_eq _ _ (land_lt k a b)]; simp only [BitVec.toNat_and, toNat_ofInt]; exact .int _ _
  case or =>
    cases h; refine ⟨.int k (k.wrap (BitVec.ofInt k.bits a ||| BitVec.ofInt k.bits b).toNat), by simp [binOp, Op.intBits], ?_⟩
    rw [asK_eq _ _ (lor_lt k a b)]; simp only [BitVec.toNat_or, toNat_ofInt]; exact .int _ _
  case xor =>
    cases h; refine ⟨.int k (k.wrap (BitVec.ofInt k.bits a ^^^ BitVec.ofInt k.bits b).toNat), by simp [binOp, Op.intBits], ?_⟩
    rw [asK_eq _ _ (xor_lt k a b)]; simp only [BitVec.toNat_xor, toNat_ofInt]; exact .int _ _
  case andNot =>
    cases h; refine ⟨.int k (k.wrap (BitVec.ofInt k.bits a &&& ~~~BitVec.ofInt k.bits b).toNat), by simp [binOp, Op.intBits], ?_⟩
    rw [asK_eq k (Nat.land (low k a) (two k - 1 - low k b)) (Nat.lt_of_le_of_lt Nat.and_le_left (low_lt k a))]
    simp only [BitVec.toNat_and, BitVec.toNat_not, toNat_ofInt, ← two_eq]; exact .int _ _
  case eql => cases h; exact ⟨.bool (a == b), by simp [binOp, Op.intCmp], by rw [ieq_eq]; exact .bool _⟩
  case neq => cases h; exact ⟨.bool (a != b), by simp [binOp, Op.intCmp], by rw [ieq_eq]; exact .bool _⟩
  case lss => cases h; exact ⟨.bool (decide (a < b)), by simp [binOp, Op.intCmp], by rw [ilt_eq]; exact .bool _⟩
  case leq => cases h; exact ⟨.bool (decide (a ≤ b)), by simp [binOp, Op.intCmp], by rw [ilt_eq, show (!decide (b < a)) = decide (a ≤ b) from by rw [← decide_not]; simp [Int.not_lt]]; exact .bool _⟩
  case gtr => cases h; exact ⟨.bool (decide (a > b)), by simp [binOp, Op.intCmp], by rw [ilt_eq]; exact .bool _⟩
  case geq => cases h; exact ⟨.bool (decide (a ≥ b)), by simp [binOp, Op.intCmp], by rw [ilt_eq, show (!decide (a < b)) = decide (a ≥ b) from by rw [← decide_not]; simp [Int.not_lt]]; exact .bool _⟩

theorem shifts_ok {op : BinOp} {k k' : IntKind} {a b : Int} {v : V} (h : shifts op k a b = some v) (t : TypeId) : Gives P g μ sz w (binOp op t (.int k a) (.int k' b)) v := by
  unfold shifts at h
  cases b with
  | negSucc m => cases h
  | ofNat m =>
    simp only at h
    have hn : (bif Nat.ble m (bitsOf k) then m else bitsOf k) = min m k.bits := by rw [cond_ble, bitsOf_eq]; split <;> omega
    rw [hn] at h
    cases op <;> simp only at h <;> (try (cases h; done))
    case shl =>
      cases h
      refine ⟨_, by simp [binOp, Op.shift]; rfl, ?_⟩
      rw [wr_eq]
      simp
      exact .int _ _
    case shr =>
      cases a with
      | ofNat x =>
        cases h
        refine ⟨_, by simp [binOp, Op.shift]; rfl, ?_⟩
        have : (x : Int).fdiv (2 ^ min m k.bits) = Int.ofNat (x / 2 ^ min m k.bits) := by
          rw [show (2 ^ min m k.bits : Int) = ((2 ^ min m k.bits : Nat) : Int) by simp, Int.fdiv_eq_ediv_of_nonneg _ (Int.natCast_nonneg _)]
          rfl
        simp [this]
        exact .int _ _
      | negSucc x =>
        cases h
        refine ⟨_, by simp [binOp, Op.shift]; rfl, ?_⟩
        have : (Int.negSucc x).fdiv (2 ^ min m k.bits) = Int.negSucc (x / 2 ^ min m k.bits) := by
          rw [show (2 ^ min m k.bits : Int) = ((2 ^ min m k.bits : Nat) : Int) by simp, Int.fdiv_eq_ediv_of_nonneg _ (Int.natCast_nonneg _)]
          rw [Int.negSucc_ediv _ (by have := Nat.two_pow_pos (min m k.bits); omega)]
          rfl
        simp [this]
        exact .int _ _

theorem toList_data (a : ByteArray) : a.toList = a.data.toList := ByteArray.toList_eq a
theorem map_toNat_inj : ∀ (x y : List UInt8), x.map (·.toNat) = y.map (·.toNat) → x = y := by
  intro x
  induction x with
  | nil => intro y h; cases y with | nil => rfl | cons => simp at h
  | cons a x ih =>
    intro y h
    cases y with
    | nil => simp at h
    | cons b y => simp only [List.map_cons, List.cons.injEq] at h; rw [UInt8.toNat_inj.1 h.1, ih y h.2]
theorem str_toNat' {a b : ByteArray} : (a.data.toList.map (·.toNat) == b.data.toList.map (·.toNat)) = (a.toList == b.toList) := by
  rw [toList_data, toList_data, Bool.eq_iff_iff]
  simp only [beq_iff_eq]
  exact ⟨map_toNat_inj _ _, fun h => by rw [h]⟩
theorem str_toNat {a b : ByteArray} : (a.data.toList.map (·.toNat) == b.data.toList.map (·.toNat)) = (a == b) := by
  show _ = (a.data == b.data)
  rw [Bool.eq_iff_iff]
  simp only [beq_iff_eq]
  refine ⟨fun h => ?_, fun h => by rw [h]⟩
  have := map_toNat_inj _ _ h
  exact Array.toList_inj.1 this
theorem strLt_eq : ∀ (a b : List UInt8), strLt (a.map (·.toNat)) (b.map (·.toNat)) = Op.bytesLess a b := by
  intro a
  induction a with
  | nil => intro b; cases b <;> rfl
  | cons x a ih =>
    intro b
    cases b with
    | nil => rfl
    | cons y b =>
      simp only [List.map_cons, strLt, Op.bytesLess, ih, cond_blt]
      by_cases hxy : x < y
      · have h1 : x.toNat < y.toNat := hxy
        simp [h1, hxy]
      · have h1 : ¬ x.toNat < y.toNat := hxy
        rw [if_neg h1]
        cases hb : Nat.beq x.toNat y.toNat with
        | true => have := UInt8.toNat_inj.1 (Nat.eq_of_beq_eq_true hb); subst this; simp [hxy]
        | false =>
          have := Nat.ne_of_beq_eq_false hb
          have h2 : x ≠ y := fun e => this (e ▸ rfl)
          simp [hxy, h2]
theorem strs_ok {op : BinOp} {a b : ByteArray} {v : V} (h : strs op (a.data.toList.map (·.toNat)) (b.data.toList.map (·.toNat)) = some v) :
    Gives P g μ sz w (Op.stringOp op a b) v := by
  cases op <;> simp only [strs] at h <;> (try (cases h; done))
  case add =>
    obtain ⟨h1, h2⟩ := cond_true h
    cases h2
    simp only [Nat.ble_eq, List.length_map] at h1
    have l1 : a.data.toList.length = a.size := Array.length_toList
    have l2 : b.data.toList.length = b.size := Array.length_toList
    refine ⟨.string (a ++ b), ?_, .str _ _ ?_⟩
    · have : ¬ ((a.size + b.size : Nat) : Int) > IntKind.i64.max := by
        have : IntKind.i64.max = 9223372036854775807 := rfl
        rw [this]; omega
      simp only [Op.stringOp]
      rw [if_neg this]; rfl
    · simp
  case eql => cases h; exact ⟨_, rfl, by rw [strEq_eq, str_toNat']; exact .bool _⟩
  case neq => cases h; exact ⟨_, rfl, by rw [strEq_eq, str_toNat']; exact .bool _⟩
  case lss => cases h; exact ⟨_, rfl, by rw [strLt_eq, ← toList_data a, ← toList_data b]; exact .bool _⟩
  case leq => cases h; exact ⟨_, rfl, by rw [strLt_eq, strEq_eq, str_toNat', ← toList_data a, ← toList_data b]; exact .bool _⟩
  case gtr => cases h; exact ⟨_, rfl, by rw [strLt_eq, strEq_eq, str_toNat', ← toList_data a, ← toList_data b]; exact .bool _⟩
  case geq => cases h; exact ⟨_, rfl, by rw [strLt_eq, ← toList_data a, ← toList_data b]; exact .bool _⟩

/-! ### Equality, cell by cell -/
theorem eqLf_ok {k : Lf} {a b : V} {x y : Value} {r : Bool} (ha : VR g μ sz a x) (hb : VR g μ sz b y) (h : eqLf k a b = some r) {t : TypeId} {n : Nat}
    (ht : P.underlying t = some .bool ∧ k = .b ∨ (∃ j, P.underlying t = some (.int j)) ∧ k = .i ∨ P.underlying t = some .string ∧ k = .s) : (Op.equalIn (n + 1) t x y).run P w = .ok r w := by
  rcases ht with ⟨hu, rfl⟩ | ⟨⟨j, hu⟩, rfl⟩ | ⟨hu, rfl⟩
  · cases a <;> (try (cases h; done)) <;> cases b <;> cases h
    cases ha; cases hb
    exact run_equalIn_bool w n t _ _ hu
  · cases a <;> (try (cases h; done)) <;> cases b <;> (try (cases h; done))
    cases ha; cases hb
    simp only [eqLf] at h
    obtain ⟨hk, hr⟩ := cond_true h
    have := kindEq_true hk
    subst this
    cases hr
    rw [ieq_eq]
    exact run_equalIn_int w n t _ _ _ _ hu
  · cases a <;> (try (cases h; done)) <;> cases b <;> cases h
    cases ha with
    | str s bs e1 =>
      cases hb with
      | str s' bs' e2 =>
        subst e1; subst e2
        rw [strEq_eq, str_toNat']
        exact run_equalIn_string w n t _ _ hu

theorem eqAll_app : ∀ (l l' : List Lf) (a b : List V) (r : Bool), eqAll (l ++ l') a b = some r →
    ∃ p q, eqAll l (a.take l.length) (b.take l.length) = some p ∧ eqAll l' (a.drop l.length) (b.drop l.length) = some q ∧ r = (p && q) ∧ l.length ≤ a.length ∧ l.length ≤ b.length := by
  intro l
  induction l with
  | nil => intro l' a b r h; exact ⟨true, r, rfl, h, by simp, by simp, by simp⟩
  | cons k l ih =>
    intro l' a b r h
    cases a with
    | nil => cases h
    | cons u a =>
      cases b with
      | nil => cases h
      | cons v b =>
        simp only [List.cons_append, eqAll] at h
        cases h1 : eqLf k u v with
        | none => rw [h1] at h; cases h
        | some p1 =>
          cases h2 : eqAll (l ++ l') a b with
          | none => rw [h1, h2] at h; cases h
          | some p2 =>
            rw [h1, h2] at h; cases h
            obtain ⟨p, q, e1, e2, e3, e4, e5⟩ := ih l' a b p2 h2
            refine ⟨p1 && p, q, ?_, by simpa using e2, by rw [e3, Bool.and_assoc], by simp; omega, by simp; omega⟩
            simp only [List.length_cons, List.take_succ_cons, eqAll, h1, e1]

/-- a type whose values are told apart cell by cell -/
def FlatOk (P : Program) (g : Gn) (μ : Mu) (sz : Sz) (w : World) (n : Nat) (t : TypeId) (l : List Lf) : Prop :=
  (∀ a b (xs ys : Array Value) r, aggT P t = some true → VRs g μ sz a xs.toList → VRs g μ sz b ys.toList → eqAll l a b = some r → ∀ k, n ≤ k → (Op.equalIn k t (.agg xs) (.agg ys)).run P w = .ok r w) ∧
  (∀ a b x y r, aggT P t = some false → VR g μ sz a x → VR g μ sz b y → eqAll l [a] [b] = some r → ∀ k, n ≤ k → (Op.equalIn k t x y).run P w = .ok r w)

theorem shapeN_some {t : TypeId} {s : Option Nat} (h : shapeN P t = some s) : ∃ n, sizeT P t = some n ∧ ((s = some n ∧ aggT P t = some true) ∨ (s = none ∧ aggT P t = some false)) := by
  unfold shapeN at h
  cases ha : aggT P t with
  | none => rw [ha] at h; cases h
  | some b =>
    cases hz : sizeT P t with
    | none => rw [ha, hz] at h; cases b <;> cases h
    | some n => rw [ha, hz] at h; cases b <;> cases h <;> simp

/-- a part, by what its leaves are -/
theorem part_flat {n : Nat} {t : TypeId} {l : List Lf} (hf : FlatOk P g μ sz w n t l) {s : Option Nat} (hs : shapeN P t = some s) (hl : sizeT P t = some l.length) (h1 : s.isSome = true ∨ l.length = 1)
    {a b : List V} {xs ys : Array Value} (ha : VRs g μ sz a xs.toList) (hb : VRs g μ sz b ys.toList) {off : Nat} {r : Bool}
    (h : eqAll l ((a.drop off).take l.length) ((b.drop off).take l.length) = some r) (hla : off + l.length ≤ a.length) (hlb : off + l.length ≤ b.length) :
    ∃ x y, (part t xs off).run P w = .ok x w ∧ (part t ys off).run P w = .ok y w ∧ ∀ k, n ≤ k → (Op.equalIn k t x y).run P w = .ok r w := by
  obtain ⟨m, hm, hc⟩ := shapeN_some hs
  rw [hl] at hm; cases hm
  rcases hc with ⟨rfl, hagg⟩ | ⟨rfl, hagg⟩
  · refine ⟨.agg (xs.extract off (off + l.length)), .agg (ys.extract off (off + l.length)), by simp [part, run_isAgg hagg, run_szT hl], by simp [part, run_isAgg hagg, run_szT hl], ?_⟩
    refine hf.1 _ _ _ _ r hagg ?_ ?_ h
    · rw [Array.toList_extract, List.extract_eq_take_drop, Nat.add_sub_cancel_left]; exact (ha.drop off).take _
    · rw [Array.toList_extract, List.extract_eq_take_drop, Nat.add_sub_cancel_left]; exact (hb.drop off).take _
  · have h1' : l.length = 1 := by simpa using h1
    have t1 := ha.length
    have t2 := hb.length
    have hx : off < a.length := by omega
    have hy : off < b.length := by omega
    obtain ⟨x, hx1, hx2⟩ := ha.get (List.getElem?_eq_getElem hx)
    obtain ⟨y, hy1, hy2⟩ := hb.get (List.getElem?_eq_getElem hy)
    rw [Array.getElem?_toList] at hx1 hy1
    refine ⟨x, y, by simp [part, run_isAgg hagg, hx1], by simp [part, run_isAgg hagg, hy1], ?_⟩
    refine hf.2 _ _ _ _ r hagg hx2 hy2 ?_
    rw [h1', List.drop_eq_getElem_cons hx, List.drop_eq_getElem_cons hy] at h
    rw [← List.drop_eq_getElem_cons hx, ← List.drop_eq_getElem_cons hy] at h
    have e1 : (a.drop off).take 1 = [a[off]] := by rw [List.drop_eq_getElem_cons hx]; rfl
    have e2 : (b.drop off).take 1 = [b[off]] := by rw [List.drop_eq_getElem_cons hy]; rfl
    rw [e1, e2] at h
    exact h

theorem leafF_ok {n : Nat} (ih : ∀ t l, leafs P n t = some l → FlatOk P g μ sz w n t l) : ∀ (fs : List Field) (off : Nat) (l : List Lf) (a b : List V) (xs ys : Array Value) (r : Bool),
    leafF P (leafs P n) fs off = some l → VRs g μ sz a xs.toList → VRs g μ sz b ys.toList → eqAll l (a.drop off) (b.drop off) = some r → off ≤ a.length → off ≤ b.length → ∀ k, n ≤ k →
    (Op.eqFields k xs ys fs).run P w = .ok r w := by
  intro fs
  induction fs with
  | nil =>
    intro off l a b xs ys r h ha hb he _ _ k _
    cases h
    cases hda : a.drop off with
    | nil => cases hdb : b.drop off with
      | nil => rw [hda, hdb] at he; cases he; rfl
      | cons => rw [hda, hdb] at he; cases he
    | cons => rw [hda] at he; cases he
  | cons f fs ihf =>
    intro off l a b xs ys r h ha hb he hoa hob k hk
    simp only [leafF] at h
    cases hc : (f.name == "_" || f.offset != off) with
    | true => rw [hc] at h; cases h
    | false =>
      rw [hc] at h
      simp only [Bool.or_eq_false_iff, beq_eq_false_iff_ne, bne_eq_false_iff_eq] at hc
      obtain ⟨hname, hoff⟩ := hc
      cases hl1 : leafs P n f.type with
      | none => rw [hl1] at h; cases h
      | some l1 =>
        cases hs : shapeN P f.type with
        | none => rw [hl1, hs] at h; cases h
        | some s =>
          rw [hl1, hs] at h
          simp only [Bool.false_eq_true, if_false] at h
          split at h
          · rename_i hcond
            simp only [Bool.and_eq_true, beq_iff_eq, Bool.or_eq_true] at hcond
            cases hl2 : leafF P (leafs P n) fs (off + l1.length) with
            | none => rw [hl2] at h; cases h
            | some l2 =>
              rw [hl2] at h; cases h
              obtain ⟨p, q, e1, e2, e3, e4, e5⟩ := eqAll_app _ _ _ _ _ he
              simp only [List.length_drop] at e4 e5
              obtain ⟨x, y, hx, hy, heq⟩ := part_flat (ih _ _ hl1) hs hcond.1 hcond.2 ha hb e1 (by omega) (by omega)
              have hrest := ihf (off + l1.length) l2 a b xs ys q hl2 ha hb (by rw [← List.drop_drop, ← List.drop_drop]; exact e2) (by omega) (by omega) k hk
              simp only [Op.eqFields]
              rw [if_pos (by simpa using hname), hoff]
              simp only [Sem.run_bind, hx, hy, heq k hk, Result.andThen_ok, Sem.run_ite]
              cases p with
              | true => simp [hrest, e3]
              | false => simp [e3]
          · cases h

theorem arr_ok {n : Nat} {e : TypeId} {l : List Lf} (hf : FlatOk P g μ sz w n e l) {s : Option Nat} (hs : shapeN P e = some s) (hl : sizeT P e = some l.length) (h1 : s.isSome = true ∨ l.length = 1)
    {a b : List V} {xs ys : Array Value} (ha : VRs g μ sz a xs.toList) (hb : VRs g μ sz b ys.toList) (k : Nat) (hk : n ≤ k) : ∀ (m i : Nat) (r : Bool),
    eqAll (List.replicate m l).flatten (a.drop (i * l.length)) (b.drop (i * l.length)) = some r → i * l.length ≤ a.length → i * l.length ≤ b.length →
    (forIn (List.range' i m) ((none, ()) : Option Bool × Unit) (fun i _ => do
      let x ← part e xs (i * l.length)
      let y ← part e ys (i * l.length)
      let q ← Op.equalIn k e x y
      if (!q) = true then pure (.done (some false, ())) else pure (.yield (none, ()))) : Sem (Option Bool × Unit)).run P w = .ok (if r then (none, ()) else (some false, ())) w := by
  intro m
  induction m with
  | zero =>
    intro i r h _ _
    cases hda : a.drop (i * l.length) with
    | nil => cases hdb : b.drop (i * l.length) with
      | nil => rw [hda, hdb] at h; cases h; rfl
      | cons => rw [hda, hdb] at h; cases h
    | cons => rw [hda] at h; cases h
  | succ m ih =>
    intro i r h hia hib
    rw [List.replicate_succ, List.flatten_cons] at h
    obtain ⟨p, q, e1, e2, e3, e4, e5⟩ := eqAll_app _ _ _ _ _ h
    simp only [List.length_drop] at e4 e5
    obtain ⟨x, y, hx, hy, heq⟩ := part_flat hf hs hl h1 ha hb e1 (by omega) (by omega)
    have hm : (i + 1) * l.length = i * l.length + l.length := by rw [Nat.add_mul, Nat.one_mul]
    have hrest := ih (i + 1) q (by rw [hm, ← List.drop_drop, ← List.drop_drop]; exact e2) (by omega) (by omega)
    rw [List.range'_succ, List.forIn_cons]
    simp only [Sem.run_bind, hx, hy, heq k hk, Result.andThen_ok, Sem.run_ite]
    cases p with
    | true => simp only [Bool.not_true, Bool.false_eq_true, if_false, Sem.run_pure, Result.andThen_ok, e3, Bool.true_and]; exact hrest
    | false => simp [e3]

theorem leafs_ok : ∀ (n : Nat) (t : TypeId) (l : List Lf), leafs P n t = some l → FlatOk P g μ sz w n t l := by
  intro n
  induction n with
  | zero => intro t l h; cases h
  | succ n ih =>
    intro t l h
    simp only [leafs] at h
    cases hu : P.underlying t with
    | none => rw [hu] at h; cases h
    | some d =>
      rw [hu] at h
      have leaf : ∀ (k0 : Lf), l = [k0] → aggT P t = some false → (P.underlying t = some .bool ∧ k0 = .b ∨ (∃ j, P.underlying t = some (.int j)) ∧ k0 = .i ∨ P.underlying t = some .string ∧ k0 = .s) → FlatOk P g μ sz w (n + 1) t l := by
        rintro k0 rfl hag hk0
        refine ⟨fun a b xs ys r hagg => (by rw [hag] at hagg; cases hagg), fun a b x y r _ ha hb he k hk => ?_⟩
        obtain ⟨k, rfl⟩ : ∃ j, k = j + 1 := ⟨k - 1, by omega⟩
        simp only [eqAll] at he
        cases hq : eqLf k0 a b with
        | none => rw [hq] at he; cases he
        | some q => rw [hq] at he; cases he; rw [Bool.and_true]; exact eqLf_ok ha hb hq hk0
      cases d <;> simp only at h <;> (try (cases h; done))
      case bool => cases h; exact leaf .b rfl (by simp [aggT, hu]) (.inl ⟨hu, rfl⟩)
      case int j => cases h; exact leaf .i rfl (by simp [aggT, hu]) (.inr (.inl ⟨⟨j, hu⟩, rfl⟩))
      case string => cases h; exact leaf .s rfl (by simp [aggT, hu]) (.inr (.inr ⟨hu, rfl⟩))
      case array m e =>
        refine ⟨fun a b xs ys r _ ha hb he k hk => ?_, fun a b x y r hagg => by simp [aggT, hu] at hagg⟩
        obtain ⟨k, rfl⟩ : ∃ j, k = j + 1 := ⟨k - 1, by omega⟩
        cases hl1 : leafs P n e with
        | none => rw [hl1] at h; cases h
        | some l1 =>
          cases hs : shapeN P e with
          | none => rw [hl1, hs] at h; cases h
          | some s =>
            rw [hl1, hs] at h
            simp only at h
            split at h
            · rename_i hc
              simp only [Bool.and_eq_true, beq_iff_eq, Bool.or_eq_true] at hc
              cases h
              have hloop := arr_ok (ih _ _ hl1) hs hc.1 hc.2 ha hb k (by omega) m 0 r (by simpa using he) (by simp) (by simp)
              simp only [Op.equalIn, Sem.run_bind, run_und hu, Result.andThen_ok, run_szT hc.1]
              rw [Std.Legacy.Range.forIn_eq_forIn_range']
              simp only [Std.Legacy.Range.size, Nat.sub_zero, Nat.add_sub_cancel, Nat.div_one]
              rw [hloop]
              cases r <;> rfl
            · cases h
      case struct fs =>
        split at h
        · cases h
        · rename_i hst
          refine ⟨fun a b xs ys r _ ha hb he k hk => ?_, fun a b x y r hagg => by simp [aggT, hu] at hagg⟩
          obtain ⟨k, rfl⟩ : ∃ j, k = j + 1 := ⟨k - 1, by omega⟩
          have hfs : P.fieldsOf t = fs := by simp [Program.fieldsOf, hu]
          rw [run_equalIn_struct w k t xs ys (by rw [hfs]; exact hu) (by simpa using hst), hfs]
          exact leafF_ok ih fs.toList 0 l a b xs ys r h ha hb (by simpa using he) (by simp) (by simp) k (by omega)
end Go.Eng

/-
  ENGINE, part 8: the operations of class 0, all. Own work.
-/
namespace Go.Eng
open Go

variable {P : Program} {g : Gn} {μ : Mu} {sz : Sz} {w : World}

def isL (a : A) : Prop := clsA a = 0

theorem same_some {h h' : H} {x : Option V} {v : V} (e : same h x = some (v, h')) : x = some v ∧ h' = h := by
  cases x with
  | none => cases e
  | some u => cases e; exact ⟨rfl, rfl⟩
theorem aggO_some {x : Option (List V)} {v : V} (e : aggO x = some v) : ∃ l, x = some l ∧ v = .agg l := by
  cases x with
  | none => cases e
  | some l => cases e; exact ⟨l, rfl, rfl⟩

theorem opt_list {T : Tr V} {ρ : Operand → Value} (hO : OR g μ sz T ρ) {x : Option Operand} {y : Option O} (h : optM g.f x = some y) :
    (∀ u, evM T y = some u → ∃ z, x.map ρ = some z ∧ VR g μ sz u z) ∧ (evM T y = none → x.map ρ = none) := by
  cases x with
  | none => cases h; exact ⟨(fun u hu => nomatch hu), fun _ => rfl⟩
  | some o =>
    simp only [optM] at h
    cases ho : oOf g.f o with
    | none => rw [ho] at h; cases h
    | some a =>
      rw [ho] at h; cases h
      exact ⟨fun u hu => ⟨ρ o, rfl, by cases hu; exact hO _ _ ho⟩, (fun hn => nomatch hn)⟩

theorem idx_some {j : Int} {n r : Nat} (h : idx j n = some r) : j = Int.ofNat r ∧ r < n := by
  unfold idx at h
  cases j with
  | negSucc m => cases h
  | ofNat m =>
    simp only at h
    rw [cond_blt] at h
    split at h
    · cases h; exact ⟨rfl, by assumption⟩
    · cases h

/-- slices of slices -/
theorem slc_ok {esz : Nat} {lo hi mx : Option V} {a v : V} {x : Value} {lo' hi' mx' : Option Value} (h : slcV esz lo hi mx a = some v) (hx : VR g μ sz a x)
    (hl : (∀ u, lo = some u → ∃ z, lo' = some z ∧ VR g μ sz u z) ∧ (lo = none → lo' = none)) (hh : (∀ u, hi = some u → ∃ z, hi' = some z ∧ VR g μ sz u z) ∧ (hi = none → hi' = none))
    (hm : (∀ u, mx = some u → ∃ z, mx' = some z ∧ VR g μ sz u z) ∧ (mx = none → mx' = none)) {t e : TypeId} (ht : P.underlying t = some (.slice e)) (he : sizeT P e = some esz) :
    Gives P g μ sz w (Instr.sliceAt t x lo' hi' mx') v := by
  cases a <;> (try (cases h; done))
  rename_i ad len cap e0
  -- the concrete slice
  obtain ⟨ad', cap', rfl, hcap, hlen, hnone, hres⟩ : ∃ (ad' : Option Addr) (cap' : Nat), x = .slice ad' len cap' ∧ (∀ c, cap = some c → c = cap') ∧ len ≤ cap' ∧ (ad = none → ad' = none ∧ cap' = 0) ∧
      (∀ l b c m, (Nat.beq e0 esz || ad.isNone) = true → l ≤ b → b ≤ m → m ≤ cap' → (∀ c', c = some c' → c' = m - l) → (cap' = 0 → m = 0) →
        VR g μ sz (.slice (upA ad (l * esz)) (b - l) c esz) (.slice (if m = l then ad' else ad'.map (·.add (l * esz))) (b - l) (m - l))) := by
    cases hx with
    | slcN c e hc =>
      refine ⟨none, 0, rfl, hc, Nat.le_refl _, fun _ => ⟨rfl, rfl⟩, fun l b c m _ h1 h2 h3 h4 _ => ?_⟩
      have h5 : m = 0 := by omega
      have h6 : b = 0 := by omega
      have h7 : l = 0 := by omega
      subst h5; subst h6; subst h7
      simp only [upA, if_true, Nat.sub_self]
      exact .slcN _ _ (fun c' hc' => h4 c' hc')
    | slc i o len cap esz0 b base cap' n h1 hs hn hl' hc =>
      refine ⟨_, cap', rfl, hc, hl', (fun hh => nomatch hh), fun l b' c m hesz h2 h3 h4 h5 _ => ?_⟩
      have : e0 = esz := by simpa [Nat.beq_eq] using hesz
      subst this
      simp only [upA]
      split
      · rename_i hml
        subst hml
        have : b' - m = 0 := by omega
        rw [this, Nat.sub_self]
        exact .slc0 _ _ _ _ ⟨b, base + o, none⟩ base h1 (fun c' hc' => by have := h5 c' hc'; omega)
      · have hadd : (⟨b, base + o, none⟩ : Addr).add (l * e0) = ⟨b, base + (o + l * e0), none⟩ := by
          unfold Addr.add; split
          · rename_i hz; rw [hz]; simp
          · simp [Nat.add_assoc]
        simp only [Option.map_some, hadd]
        refine .slc _ _ _ _ _ _ _ _ n h1 hs ?_ (by omega) h5
        have : l * e0 + (m - l) * e0 = m * e0 := by rw [← Nat.add_mul]; congr 1; omega
        have : m * e0 ≤ cap' * e0 := Nat.mul_le_mul_right _ h4
        omega
    | slc0 i o cap esz0 a base hmu hc =>
      refine ⟨some a, 0, rfl, hc, Nat.le_refl _, (fun hh => nomatch hh), fun l b c m _ h1 h2 h3 h4 _ => ?_⟩
      have h5 : m = 0 := by omega
      have h6 : b = 0 := by omega
      have h7 : l = 0 := by omega
      subst h5; subst h6; subst h7
      simp only [upA, if_true, Nat.sub_self]
      exact .slc0 _ _ _ _ _ base hmu (fun c' hc' => h4 c' hc')
  simp only [slcV] at h
  obtain ⟨hesz, h⟩ := cond_true h
  have hmost : cap.getD len ≤ cap' := by cases cap with | none => exact hlen | some c => exact Nat.le_of_eq (hcap c rfl)
  have hrun : ∀ (l b m : Nat), (Instr.sliceBounds true len cap' lo' hi' mx').run P w = .ok (l, b, m) w →
      (Instr.sliceAt t (.slice ad' len cap') lo' hi' mx').run P w = .ok (.slice (if m = l then ad' else ad'.map (·.add (l * esz))) (b - l) (m - l)) w := by
    intro l b m hb
    simp only [Instr.sliceAt, Instr.slice, Sem.run_bind, run_und ht, Result.andThen_ok, hb, run_szT he, Sem.run_pure]
  cases mx with
  | none =>
    have hm' := hm.2 rfl
    subst hm'
    simp only at h
    cases hb : bnd hi len (cap.getD len) with
    | none => rw [hb] at h; cases h
    | some b =>
      rw [hb] at h
      simp only at h
      cases hl0 : bnd lo 0 b with
      | none => rw [hl0] at h; cases h
      | some l =>
        rw [hl0] at h
        cases h
        have hb' := bnd_ok (P := P) (w := w) hh.1 hh.2 hb cap' hmost .sliceAcap
        have hbc : b ≤ cap' := by rcases hb' with ⟨_, _, rfl⟩ | ⟨_, _, _, h3⟩ <;> omega
        have hl' := bnd_ok (P := P) (w := w) hl.1 hl.2 hl0 b (Nat.le_refl _) .sliceB
        have hlb : l ≤ b := by rcases hl' with ⟨_, _, rfl⟩ | ⟨_, _, _, h3⟩ <;> omega
        refine ⟨_, hrun l b cap' ?_, hres l b (subC cap l) cap' hesz hlb hbc (Nat.le_refl _) ?_ (fun h => h)⟩
        · rcases hb' with ⟨_, rfl, rfl⟩ | ⟨y, rfl, hy, _⟩ <;> rcases hl' with ⟨_, rfl, rfl⟩ | ⟨z, rfl, hz, _⟩ <;>
            simp [Instr.sliceBounds, *]
        · intro c' hc'
          cases cap with
          | none => cases hc'
          | some c => cases hc'; rw [hcap c rfl]
  | some mv =>
    obtain ⟨mz, rfl, hmr⟩ := hm.1 mv rfl
    simp only at h
    cases hm0 : bnd (some mv) 0 (cap.getD len) with
    | none => rw [hm0] at h; cases h
    | some m =>
      rw [hm0] at h
      simp only at h
      cases hi with
      | none => cases h
      | some hv =>
        simp only at h
        cases hb : bnd (some hv) 0 m with
        | none => rw [hb] at h; cases h
        | some b =>
          rw [hb] at h
          simp only at h
          cases hl0 : bnd lo 0 b with
          | none => rw [hl0] at h; cases h
          | some l =>
            rw [hl0] at h
            cases h
            have hm' := bnd_ok (P := P) (w := w) hm.1 hm.2 hm0 cap' hmost .slice3Acap
            have hb' := bnd_ok (P := P) (w := w) hh.1 hh.2 hb m (Nat.le_refl _) .slice3B
            have hl' := bnd_ok (P := P) (w := w) hl.1 hl.2 hl0 b (Nat.le_refl _) .slice3C
            rcases hm' with ⟨hbad, _⟩ | ⟨my, hmy, hmrun, hmle⟩
            · cases hbad
            rcases hb' with ⟨hbad, _⟩ | ⟨y, hy, hyrun, hble⟩
            · cases hbad
            cases hmy
            subst hy
            have hlb : l ≤ b := by rcases hl' with ⟨_, _, rfl⟩ | ⟨_, _, _, h3⟩ <;> omega
            refine ⟨_, hrun l b m ?_, hres l b (some (m - l)) m hesz hlb hble (by omega) (fun c' hc' => by cases hc'; rfl) (fun h => by omega)⟩
            rcases hl' with ⟨_, rfl, rfl⟩ | ⟨z, rfl, hz, _⟩ <;> simp [Instr.sliceBounds, *]

theorem run_convert_int {s d : TypeId} {k : IntKind} {k0 : IntKind} {n : Int} {ks : IntKind} (hs : P.underlying s = some (.int ks)) (hd : P.underlying d = some (.int k)) :
    (convert s d (.int k0 n)).run P w = .ok (.int k (k.wrap n)) w := by
  simp [convert, run_und hs, run_und hd, Conv.intToInt]

theorem nilchk_ok {a v : V} {x : Value} (h : nilchkV a = some v) (hx : VR g μ sz a x) : v = a ∧ (match x with | .pointer none | .nilIface | .nilFunc => False | .func (.method _) _ _ => False | _ => True) := by
  cases hx <;> simp only [nilchkV] at h <;> (try (cases h; done)) <;> (cases h; exact ⟨rfl, trivial⟩)

theorem len_ok {str : Bool} {t ty : TypeId} {ats : Array TypeId} {args : Array Value} {a v : V} {x : Value} (hat : ats[0]? = some t) (hax : args[0]? = some x) (h : lenV str a = some v) (hx : VR g μ sz a x) (ht : if str then P.underlying t = some .string else ∃ e, P.underlying t = some (.slice e)) :
    Gives P g μ sz w (Builtin.len_ ats ty args) v := by
  cases str with
  | true =>
    cases a <;> (try (cases h; done))
    cases h
    cases hx with
    | str s bs e =>
      subst e
      refine ⟨goInt bs.size, by simp [Builtin.len_, hat, hax, run_und (show P.underlying t = some .string from ht)], ?_⟩
      have : (bs.data.toList.map (·.toNat)).length = bs.size := by rw [List.length_map]; exact Array.length_toList
      rw [this]
      exact .int _ _
  | false =>
    obtain ⟨e, ht⟩ := ht
    cases a <;> (try (cases h; done))
    cases h
    cases hx <;> exact ⟨_, by simp [Builtin.len_, hat, hax, run_und ht]; rfl, .int _ _⟩

theorem min_ok (m : Bool) : ∀ (l : List V) (xs : List Value) (a v : V) (x : Value), minAll m a l = some v → VR g μ sz a x → VRs g μ sz l xs →
    Gives P g μ sz w (xs.foldlM (if m then Builtin.min2 else Builtin.max2) x) v := by
  intro l
  induction l with
  | nil => intro xs a v x h hx hl; cases hl; cases h; exact ⟨x, rfl, hx⟩
  | cons b l ih =>
    intro xs a v x h hx hl
    cases hl with
    | cons _ y _ ys hy hys =>
      simp only [minAll] at h
      cases hm : minV m a b with
      | none => rw [hm] at h; cases h
      | some u =>
        rw [hm] at h
        have key : ∃ z, ((if m then Builtin.min2 else Builtin.max2) x y).run P w = .ok z w ∧ VR g μ sz u z := by
          cases a <;> cases b <;> cases m <;> simp only [minV] at hm <;> (try (cases hm; done))
          all_goals
            obtain ⟨hk, hu⟩ := cond_true hm
            cases hu
            cases hx; cases hy
            have := kindEq_true hk
            subst this
            refine ⟨_, by simp [Builtin.min2, Builtin.max2]; rfl, ?_⟩
            rw [ilt_eq]
            rw [Bool.cond_decide]
            exact .int _ _
        obtain ⟨z, hz, hzr⟩ := key
        obtain ⟨r, hr, hrr⟩ := ih ys u v z h hzr hys
        refine ⟨r, ?_, hrr⟩
        rw [List.foldlM_cons]
        simp only [Sem.run_bind, hz, Result.andThen_ok]
        exact hr
end Go.Eng

/-
  ENGINE, part 9: the operations of class 0, put together. Own work.
-/
namespace Go.Eng
open Go

variable {P : Program} {g : Gn} {μ : Mu} {sz : Sz} {w : World}

/-- a value, as an operation's answer -/
def GivesN (P : Program) (g : Gn) (μ : Mu) (sz : Sz) (w : World) (s : Sem Next) (v : V) : Prop := ∃ x, s.run P w = .ok (.value x) w ∧ VR g μ sz v x
theorem Gives.next {s : Sem Value} {v : V} (h : Gives P g μ sz w s v) : GivesN P g μ sz w (do pure (.value (← s))) v := by
  obtain ⟨x, h1, h2⟩ := h
  exact ⟨x, by simp [h1], h2⟩
theorem Gives.pure {x : Value} {v : V} (h : VR g μ sz v x) : Gives P g μ sz w (Pure.pure x) v := ⟨x, rfl, h⟩

theorem mapM_get {α β : Type} (f : α → Option β) : ∀ (l : List α) (m : List β), l.mapM f = some m → l.length = m.length ∧ ∀ (j : Nat) p q, l[j]? = some p → m[j]? = some q → f p = some q := by
  intro l
  induction l with
  | nil => intro m h; simp at h; subst h; exact ⟨rfl, fun j p q hp => by simp at hp⟩
  | cons p0 l ih =>
    intro m h
    rw [List.mapM_cons] at h
    simp only [Option.bind_eq_bind, Option.bind_eq_some_iff, Option.pure_def, Option.some.injEq] at h
    obtain ⟨q0, e1, qs', e2, rfl⟩ := h
    obtain ⟨i1, i2⟩ := ih qs' e2
    refine ⟨by simp [i1], fun j p q hp hq => ?_⟩
    cases j with
    | zero => simp at hp hq; subst hp; subst hq; exact e1
    | succ j => exact i2 j p q (by simpa using hp) (by simpa using hq)
theorem mapM_places : ∀ (fs : List Field) (pl : List (Nat × Nat)), (fs.mapM fun f => (sizeT P f.type).map fun s => (f.offset, s)) = some pl →
    (fs.mapM (fun f => do pure (f.offset, ← sizeOf f.type) : Field → Sem (Nat × Nat))).run P w = .ok pl w := by
  intro fs
  induction fs with
  | nil => intro pl h; simp at h; subst h; simp
  | cons f fs ih =>
    intro pl h
    rw [List.mapM_cons] at h
    simp only [Option.bind_eq_bind, Option.bind_eq_some_iff, Option.pure_def, Option.some.injEq, Option.map_eq_some_iff] at h
    obtain ⟨q0, ⟨s, e1, rfl⟩, pl', e2, rfl⟩ := h
    rw [List.mapM_cons]
    have := ih pl' e2
    simp only [bind_pure_comp] at this
    simp [run_szT e1, this]
theorem parts_ok {T : Tr V} {ρ : Operand → Value} (hO : OR g μ sz T ρ) {place place' : Nat → Option (Nat × Nat)} (hpl : ∀ i x, place i = some x → place' i = some x) : ∀ (l : List (Nat × Operand)) (qs : List (Nat × Nat × O)), l.mapM (partO g.f place) = some qs →
    (evP T qs).length = (l.map fun (i, x) => (i, ρ x)).length ∧ ∀ (j : Nat) p q, (evP T qs)[j]? = some p → (l.map fun (i, x) => (i, ρ x))[j]? = some q → place' q.1 = some (p.1, p.2.1) ∧ VR g μ sz p.2.2 q.2 := by
  intro l
  induction l with
  | nil => intro qs h; simp at h; subst h; exact ⟨rfl, fun j p q hp => by simp [evP] at hp⟩
  | cons p0 l ih =>
    intro qs h
    rw [List.mapM_cons] at h
    simp only [Option.bind_eq_bind, Option.bind_eq_some_iff, Option.pure_def, Option.some.injEq] at h
    obtain ⟨q0, e1, qs', e2, rfl⟩ := h
    obtain ⟨i1, i2⟩ := ih qs' e2
    obtain ⟨pi, px⟩ := p0
    simp only [partO] at e1
    cases h1 : place pi with
    | none => rw [h1] at e1; cases e1
    | some os =>
      obtain ⟨po, ps⟩ := os
      cases h2 : oOf g.f px with
      | none => rw [h1, h2] at e1; cases e1
      | some y =>
        rw [h1, h2] at e1; cases e1
        refine ⟨by simpa [evP] using i1, fun j p q hp hq => ?_⟩
        cases j with
        | zero =>
          simp [evP] at hp hq
          subst hp; subst hq
          exact ⟨hpl _ _ h1, hO _ _ h2⟩
        | succ j => exact i2 j p q (by simpa [evP] using hp) (by simpa using hq)

theorem build_ok {T : Tr V} {ρ : Operand → Value} (hO : OR g μ sz T ρ) {o : Oper} {a : A} {t : TypeId} {ps : Array (Nat × Operand)} (ho : o.op = .build t ps) (h : trA P g.f o = some a) {Q : Orc} {h0 h1 : H} {v : V}
    (hs : step a Q T h0 = some (v, h1)) : h1 = h0 ∧ Gives P g μ sz w (Instr.build t (ps.map fun (i, x) => (i, ρ x))) v := by
  unfold trA at h
  rw [ho] at h
  simp only [Option.bind_eq_bind, Option.bind_eq_some_iff] at h
  obtain ⟨z, hz, h⟩ := h
  obtain ⟨zx, hzx, hzr⟩ := zeroOf_ok (g := g) (μ := μ) (sz := sz) hz
  have hzc := VR.cells hzr
  cases hu : P.underlying t with
  | none => rw [hu] at h; cases h
  | some d =>
    rw [hu] at h
    cases d <;> simp only [reduceCtorEq] at h
    case struct fs =>
      simp only [Option.bind_eq_some_iff, Option.pure_def, Option.some.injEq] at h
      obtain ⟨pl, hp, qs, hq, rfl⟩ := h
      obtain ⟨e1, e2⟩ := same_some hs
      obtain ⟨l, e3, rfl⟩ := aggO_some e1
      refine ⟨e2, ?_⟩
      obtain ⟨hlen, hget⟩ := parts_ok hO (place' := (pl.toArray[·]?)) (fun i x hx => by simpa using hx) _ _ hq
      obtain ⟨ys, hys, hyr⟩ := fill_ok (place := (pl.toArray[·]?)) _ _ _ _ _ hzc e3 hlen hget
      refine ⟨.agg ys, ?_, .agg _ _ hyr⟩
      have hpl := mapM_places (w := w) _ _ hp
      have : (fs.mapM (fun f => do pure (f.offset, ← sizeOf f.type) : Field → Sem (Nat × Nat))).run P w = .ok pl.toArray w := by
        rw [Array.mapM_eq_mapM_toList]
        simp only [Sem.run_map, hpl, Result.andThen_ok]
      have hps : (ps.map fun (i, x) => (i, ρ x)).toList = ps.toList.map fun (i, x) => (i, ρ x) := Array.toList_map
      simp only [Instr.build, Sem.run_bind, hzx, Result.andThen_ok, run_und hu, this, hps, hys, Sem.run_pure]
    case array n e =>
      simp only [Option.bind_eq_some_iff, Option.pure_def, Option.some.injEq] at h
      obtain ⟨s, hsz, qs, hq, rfl⟩ := h
      obtain ⟨e1, e2⟩ := same_some hs
      obtain ⟨l, e3, rfl⟩ := aggO_some e1
      refine ⟨e2, ?_⟩
      obtain ⟨hlen, hget⟩ := parts_ok hO (place' := fun i => some (i * s, s)) (fun i x hx => hx) _ _ hq
      obtain ⟨ys, hys, hyr⟩ := fill_ok (place := fun i => some (i * s, s)) _ _ _ _ _ hzc e3 hlen hget
      refine ⟨.agg ys, ?_, .agg _ _ hyr⟩
      simp [Instr.build, hzx, run_und hu, run_szT hsz, hys]

/-! ### Two operands -/
def Quiet2 (P : Program) (t : TypeId) : Value → Value → Prop
  | .nilIface, .nilIface => False
  | .agg _, .agg _ => P.eqGuardType P.depth t = false
  | _, _ => True
theorem eqGuard_ok {op : BinOp} {t : TypeId} {x y : Operand} {a b : Value} (h : (op = .eql ∨ op = .neq) → Quiet2 P t a b) :
    (eqGuard op t x y a b).run P w = .ok () w := by
  cases op
  case eql =>
    have hg := h (.inl rfl)
    cases a <;> cases b <;> first | rfl | exact hg.elim | (simp only [Quiet2] at hg; simp [eqGuard, hg])
  case neq =>
    have hg := h (.inr rfl)
    cases a <;> cases b <;> first | rfl | exact hg.elim | (simp only [Quiet2] at hg; simp [eqGuard, hg])
  all_goals rfl

theorem eqK_flat {t : TypeId} {l : List Lf} (h : eqK P t = some (.flat l)) : P.eqGuardType P.depth t = false ∧ leafs P 20 t = some l ∧ aggT P t = some true := by
  unfold eqK at h
  cases hu : P.underlying t with
  | none => rw [hu] at h; cases h
  | some d =>
    rw [hu] at h
    cases d <;> simp only at h <;> (try (cases h; done))
    case pointer e => split at h <;> cases h
    all_goals
      split at h
      · cases h
      · rename_i hg
        simp only [Option.map_eq_some_iff] at h
        obtain ⟨l', h1, h2⟩ := h
        cases h2
        exact ⟨by simpa using hg, h1, by simp [aggT, hu]⟩
theorem eqK_bool {t : TypeId} (h : eqK P t = some .bool) : P.underlying t = some .bool := by
  unfold eqK at h
  cases hu : P.underlying t with
  | none => rw [hu] at h; cases h
  | some d =>
    rw [hu] at h
    cases d <;> simp only at h <;> (try (cases h; done))
    case bool => rfl
    case pointer e => split at h <;> cases h
    all_goals
      split at h
      · cases h
      · simp at h

theorem eqNil_ok {k : Rk} {t : TypeId} (he : eqK P t = some (.ref k)) (hr : EqK.ref k ≠ .ref .p) {h : H} {a b : V} {x y : Value} {r : Bool} (ha : VR g μ sz a x) (hb : VR g μ sz b y) (hs : eqlV (.ref k) h a b = some r) :
    (Op.equal t x y).run P w = .ok r w ∧ Quiet2 P t x y := by
  have hu : (match k with | .p => True | .s => ∃ e, P.underlying t = some (.slice e) | .m => ∃ e e', P.underlying t = some (.map e e') | .f => ∃ a b c, P.underlying t = some (.func a b c) | .i => ∃ m, P.underlying t = some (.interface m)) := by
    unfold eqK at he
    cases hu : P.underlying t with
    | none => rw [hu] at he; cases he
    | some d =>
      rw [hu] at he
      cases d <;> simp only at he <;> (try (cases he; done))
      case pointer e => split at he <;> cases he; trivial
      case slice e => cases he; exact ⟨e, rfl⟩
      case map e e' => cases he; exact ⟨e, e', rfl⟩
      case func a b c => cases he; exact ⟨a, b, c, rfl⟩
      case interface m => cases he; exact ⟨m, rfl⟩
      all_goals
        split at he
        · cases he
        · simp at he
  simp only [eqlV] at hs
  obtain ⟨d, hd⟩ : ∃ d, ∀ u v, Op.equal t u v = Op.equalIn (d + 1) t u v := ⟨9999, fun _ _ => rfl⟩
  rw [hd]
  cases k with
  | p => exact absurd rfl hr
  | s =>
    obtain ⟨e, hu⟩ := hu
    simp only [eqRef] at hs
    cases ha <;> (try (cases hs; done)) <;> cases hb <;> (try (cases hs; done)) <;> cases hs <;> exact ⟨by simp only [Op.equalIn, Sem.run_bind, run_und hu, Result.andThen_ok]; rfl, trivial⟩
  | m =>
    obtain ⟨e, e', hu⟩ := hu
    simp only [eqRef] at hs
    cases ha <;> (try (cases hs; done)) <;> cases hb <;> (try (cases hs; done)) <;> cases hs <;> exact ⟨by simp only [Op.equalIn, Sem.run_bind, run_und hu, Result.andThen_ok]; rfl, trivial⟩
  | f =>
    obtain ⟨e, e', e'', hu⟩ := hu
    simp only [eqRef] at hs
    cases ha <;> (try (cases hs; done)) <;> cases hb <;> (try (cases hs; done)) <;> cases hs <;> exact ⟨by simp only [Op.equalIn, Sem.run_bind, run_und hu, Result.andThen_ok]; rfl, trivial⟩
  | i =>
    obtain ⟨m, hu⟩ := hu
    simp only [eqRef] at hs
    cases ha <;> (try (cases hs; done)) <;> cases hb <;> (try (cases hs; done)) <;> cases hs <;> exact ⟨by simp only [Op.equalIn, Sem.run_bind, run_und hu, Result.andThen_ok]; rfl, trivial⟩

/-- equality where no reference is asked -/
theorem eqlV_ok {e : EqK} {t : TypeId} (he : eqK P t = some e) (hr : e ≠ .ref .p) {h : H} {a b : V} {x y : Value} {r : Bool} (ha : VR g μ sz a x) (hb : VR g μ sz b y) (hs : eqlV e h a b = some r) :
    (Op.equal t x y).run P w = .ok r w ∧ Quiet2 P t x y := by
  cases e with
  | no => cases hs
  | ref k => exact eqNil_ok he hr ha hb hs
  | bool =>
    have hu := eqK_bool he
    cases a <;> (try (cases hs; done)) <;> cases b <;> (try (cases hs; done))
    refine ⟨eqLf_ok (k := .b) ha hb hs (.inl ⟨hu, rfl⟩), ?_⟩
    cases ha; cases hb; trivial
  | flat l =>
    obtain ⟨h1, h2, h3⟩ := eqK_flat he
    cases a <;> (try (cases hs; done)) <;> cases b <;> (try (cases hs; done))
    cases ha with
    | agg cs cs' hc =>
      cases hb with
      | agg ds ds' hd =>
        refine ⟨(leafs_ok 20 t l h2).1 _ _ _ _ r h3 hc hd hs 10000 (by omega), h1⟩

theorem isEq0 {op : BinOp} (h : isEq op = 0) : op = .eql := by cases op <;> first | rfl | cases h
theorem isEq1 {op : BinOp} (h : isEq op = 1) : op = .neq := by cases op <;> first | rfl | cases h
theorem isEq2 {op : BinOp} (h : isEq op = 2) : op = .shl ∨ op = .shr := by cases op <;> first | exact .inl rfl | exact .inr rfl | cases h

theorem bin_ok {op : BinOp} {e : EqK} {t : TypeId} {X Y : Operand} {h : H} {a b v : V} {x y : Value} (hqq : (op = .eql ∨ op = .neq) → ∀ r, eqlV e h a b = some r → (Op.equal t x y).run P w = .ok r w ∧ Quiet2 P t x y) (ha : VR g μ sz a x) (hb : VR g μ sz b y)
    (hs : binV op e h a b = some v) : Gives P g μ sz w (do eqGuard op t X Y x y; binOp op t x y) v := by
  have fin : ∀ (hg : (op = .eql ∨ op = .neq) → Quiet2 P t x y), Gives P g μ sz w (binOp op t x y) v → Gives P g μ sz w (do eqGuard op t X Y x y; binOp op t x y) v := by
    rintro hg ⟨z, h1, h2⟩
    exact ⟨z, by rw [Sem.run_bind, eqGuard_ok hg]; exact h1, h2⟩
  have other : binE op e h a b = some v → Gives P g μ sz w (do eqGuard op t X Y x y; binOp op t x y) v := by
    intro hs2
    unfold binE at hs2
    split at hs2
    · rename_i h0
      have := isEq0 h0
      subst this
      cases hq : eqlV e h a b with
      | none => rw [hq] at hs2; cases hs2
      | some r =>
        rw [hq] at hs2; cases hs2
        obtain ⟨h1, h2⟩ := hqq (.inl rfl) r hq
        refine fin (fun _ => h2) ⟨.bool r, ?_, .bool _⟩
        have hb' : binOp .eql t x y = (do pure (.bool (← Op.equal t x y))) ∨ (∃ k m k' m', x = .int k m ∧ y = .int k' m') ∨ (∃ s s', x = .string s ∧ y = .string s') ∨ (∃ k m k' m', x = .float k m ∧ y = .float k' m') ∨ (∃ k m m1 k' m' m1', x = .complex k m m1 ∧ y = .complex k' m' m1') := by
          cases ha <;> cases hb <;> first | exact .inl rfl | exact .inr (.inl ⟨_, _, _, _, rfl, rfl⟩) | exact .inr (.inr (.inl ⟨_, _, rfl, rfl⟩))
        rcases hb' with hb' | ⟨k, m, k', m', rfl, rfl⟩ | ⟨s, s', rfl, rfl⟩ | ⟨k, m, k', m', rfl, rfl⟩ | ⟨k, m, m1, k', m', m1', rfl, rfl⟩
        · rw [hb']; simp [h1]
        · cases ha; cases hb; (cases e <;> (try (cases hq; done))); rename_i k; cases k <;> cases hq
        · cases ha; cases hb; (cases e <;> (try (cases hq; done))); rename_i k; cases k <;> cases hq
        · cases ha
        · cases ha
    · rename_i h0
      have := isEq1 h0
      subst this
      cases hq : eqlV e h a b with
      | none => rw [hq] at hs2; cases hs2
      | some r =>
        rw [hq] at hs2; cases hs2
        obtain ⟨h1, h2⟩ := hqq (.inr rfl) r hq
        refine fin (fun _ => h2) ⟨.bool !r, ?_, .bool _⟩
        have hb' : binOp .neq t x y = (do pure (.bool (!(← Op.equal t x y)))) ∨ (∃ k m k' m', x = .int k m ∧ y = .int k' m') ∨ (∃ s s', x = .string s ∧ y = .string s') := by
          cases ha <;> cases hb <;> first | exact .inl rfl | exact .inr (.inl ⟨_, _, _, _, rfl, rfl⟩) | exact .inr (.inr ⟨_, _, rfl, rfl⟩)
        rcases hb' with hb' | ⟨k, m, k', m', rfl, rfl⟩ | ⟨s, s', rfl, rfl⟩
        · rw [hb']; simp [h1]
        · cases ha; cases hb; (cases e <;> (try (cases hq; done))); rename_i k; cases k <;> cases hq
        · cases ha; cases hb; (cases e <;> (try (cases hq; done))); rename_i k; cases k <;> cases hq
    · cases hs2
  cases ha with
  | int k n =>
    simp only [binV] at hs
    cases hb with
    | int k' n' =>
      simp only [binInt] at hs
      split at hs
      · rename_i h0
        refine fin (fun _ => trivial) ?_
        rcases isEq2 h0 with rfl | rfl <;> exact shifts_ok hs t
      · rename_i h0
        obtain ⟨hk, hs3⟩ := cond_true hs
        have := kindEq_true hk
        subst this
        exact fin (fun _ => trivial) (ints_ok hs3 h0 t)
    | _ => cases hs
  | str s bs e1 =>
    simp only [binV] at hs
    cases hb with
    | str s' bs' e2 =>
      subst e1; subst e2
      refine fin (fun _ => trivial) ?_
      have : binOp op t (.string bs) (.string bs') = Op.stringOp op bs bs' := by cases op <;> first | rfl | (cases hs; done)
      rw [this]
      exact strs_ok hs
    | _ => cases hs
  | _ => exact other hs
end Go.Eng
