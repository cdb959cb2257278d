/- The evaluator by which closed calls are run, part D: own work.
-/
import Derived.Test.YtfopajklnakmpaaEngC
import Derived.Laws.Pointers
set_option linter.unusedVariables false
set_option linter.unusedSimpArgs false
set_option linter.unusedSectionVars false
/-
  ENGINE, part 14: append, copy, slices of arrays, references held against each other. Own work.
-/
namespace Go.Eng
open Go

variable {P : Program} {g : Gn} {μ : Mu} {w : World}

/-- the rest of append, when it is known how much is appended -/
def appTail (elem : TypeId) (size : Nat) (s : Value) (base : Option Addr) (sLen sCap n : Nat) (zeros : Bool) (x : Value) (appended : Sem (Array Value)) : Sem Value := do
  let need := sLen + n
  if need ≤ sCap then
    let new ← appended
    if let some a := base then Go.storeCells (a.add (sLen * size)) new.toList
    pure (.slice base need sCap)
  else
    if (need : Int) > IntKind.i64.max ∧ (zeros ∨ (← typeInfo elem).bytes = 0) then runtimePanic (.error "growslice: len out of range")
    if Builtin.nextslicecap need sCap * (← typeInfo elem).bytes > 2 ^ 48 then (if zeros then runtimePanic (.error "growslice: len out of range") else do
      if !(← Builtin.mayShare size sLen n base x) then mark .noRoom
      unsupported (.resourceLimit "append: a slice or a string whose bytes no memory bears"))
    let newCap ← choose (.appendCap need sCap elem)
    askRoom (newCap * (← typeInfo elem).bytes)
    let old ← Builtin.firstCells size sLen s
    let new ← appended
    let rest := Builtin.zeroCells (← zeroValue elem).cells (newCap - need)
    pure (.slice (some (← newRow elem (old ++ new ++ rest))) need newCap)

def isIntT : TypeDesc → Bool
  | .int _ => true
  | _ => false
theorem append_eq {ats : Array TypeId} {ty sT xT e : TypeId} {args : Array Value} {base : Option Addr} {sLen sCap size : Nat} {x : Value} (h0 : ats[0]? = some sT) (h1 : ats[1]? = some xT) (a0 : args[0]? = some (.slice base sLen sCap)) (a1 : args[1]? = some x)
    (hs : P.underlying sT = some (.slice e)) (hx : ∃ d, P.underlying xT = some d ∧ isIntT d = false) (hsz : sizeT P e = some size) {n : Nat} (hn : (Builtin.lenOf x).run P w = .ok n w) :
    (Builtin.append_ ats ty args).run P w = (appTail e size (.slice base sLen sCap) base sLen sCap n false x (Builtin.firstCells size n x)).run P w := by
  obtain ⟨d, hd, hd2⟩ := hx
  simp only [Builtin.append_, h0, h1, a0, a1, Sem.run_bind, run_und hs, Result.andThen_ok, run_szT hsz, run_und hd, Sem.run_pure]
  cases d <;> first
    | (cases hd2; done)
    | (simp only [appTail, Bool.false_eq_true, if_false, Sem.run_bind, hn, Result.andThen_ok, Bool.not_false, if_true]; rfl)

theorem run_stay {elem : TypeId} {size sl cap n : Nat} {base : Option Addr} {s x : Value} {zeros : Bool} {appended : Sem (Array Value)} {xs : List Value} (hle : sl + n ≤ cap) (happ : appended.run P w = .ok xs.toArray w) {w1 : World}
    (hst : match base with | some a => (Go.storeCells (a.add (sl * size)) xs).run P w = .ok () w1 | none => w1 = w) :
    (appTail elem size s base sl cap n zeros x appended).run P w = .ok (.slice base (sl + n) cap) w1 := by
  simp only [appTail]
  rw [if_pos hle]
  cases base with
  | none => subst hst; simp [happ]
  | some a => simp only [Sem.run_bind, happ, Result.andThen_ok]; rw [hst]; rfl

theorem run_grow {elem : TypeId} {i : TypeInfo} {zv : Value} (hi : P.info? elem = some i) (hz : i.zero = some zv) {sl cap n : Nat} {base : Option Addr} {s x : Value} {zeros : Bool} {appended : Sem (Array Value)} {xs olds : List Value}
    (hgt : cap < sl + n) (hroom : (sl + n) * i.bytes ≤ 35184372088832) (hroom2 : sl + n ≤ 35184372088832) (happ : appended.run P w.drew = .ok xs.toArray w.drew) (hold : (Builtin.firstCells i.size sl s).run P w.drew = .ok olds.toArray w.drew) :
    (appTail elem i.size s base sl cap n zeros x appended).run P w = .ok (.slice (some ⟨w.heap.size, 0, none⟩) (sl + n) (grownCap w (sl + n) cap elem))
      (w.drew.alloc (.cells (olds.toArray ++ xs.toArray ++ Builtin.zeroCells zv.cells (grownCap w (sl + n) cap elem - (sl + n))) elem)) := by
  have h1 : ¬ (((sl + n : Nat) : Int) > IntKind.i64.max ∧ (zeros = true ∨ i.bytes = 0)) := by
    have : IntKind.i64.max = 9223372036854775807 := rfl
    rw [this]; omega
  have h2 : ¬ Builtin.nextslicecap (sl + n) cap * i.bytes > 2 ^ 48 := by
    have := growslice_fits (bytes := i.bytes) hgt (by omega)
    omega
  have hti : ∀ w : World, (typeInfo elem).run P w = .ok i w := fun w => by simp [typeInfo, hi]
  have hzv : ∀ w : World, (zeroValue elem).run P w = .ok zv w := fun w => by simp [zeroValue, typeInfo, hi, hz]
  have hforced : (Question.appendCap (sl + n) cap elem).forced = false := rfl
  simp only [appTail]
  rw [if_neg (by omega)]
  simp only [Sem.run_bind, hti, Result.andThen_ok, Sem.run_ite, if_neg h1, if_neg h2, run_choose, hforced, Bool.false_eq_true, if_false, run_askRoom, World.drew_eq, hold, happ, hzv, newRow, run_newObj, Sem.run_pure]
  rfl

theorem size_zeroCells (z : Array Value) (n : Nat) : (Builtin.zeroCells z n).size = n * z.size := by simp [Builtin.zeroCells]

/-- a grown row, under a new number -/
theorem grown_ok {h : H} (hr : HR P g μ h w) {elem : TypeId} {c : Array Value} {old new : List V} {olds xs : List Value} {rest : Array Value} (hc : c = olds.toArray ++ xs.toArray ++ rest) (ho : VRs g μ (szOf w) old olds) (hx : VRs g μ (szOf w) new xs)
    {m : Md} (hm : m ≠ .ro) {len cap esz : Nat} (hsz : cap * esz ≤ c.size) (hl : len ≤ cap) {s : Sem Next} (hs : s.run P w = .ok (.value (.slice (some ⟨w.heap.size, 0, none⟩) len cap)) (w.drew.alloc (.cells c elem))) :
    GivesH P g μ h w s (.slice (some (h.next, 0)) len none esz) (h.new (.cells (old ++ new) m)) := by
  have happ := ho.append hx
  have hlen := happ.length
  have hcs : c.size = olds.length + xs.length + rest.size := by rw [hc]; simp
  obtain ⟨k1, k2, k3⟩ := new_row hr w.drew rfl c elem (0, 0) (old ++ new) m hm (fun j v hj => by
    obtain ⟨x, hx', hvr⟩ := happ.get hj
    refine ⟨x, ?_, hvr⟩
    have hjl := (List.getElem?_eq_some_iff.1 hx').1
    rw [hc, Array.getElem?_append_left (by simpa using hjl), ← Array.getElem?_toList]
    simpa using hx') (by rw [hlen, List.length_append]; omega) (.inl rfl) (fun _ => rfl)
  refine ⟨_, _, _, _, hs, .inl rfl, k1, k2, ?_⟩
  have := VR.slc (g := g) h.next 0 len none esz w.heap.size 0 cap _ (Mu.add_same μ h.next (w.heap.size, 0)) k3 (by omega) hl (fun x hx => by cases hx)
  simpa using this

theorem GivesH.pre {μ0 : Mu} {h0 h h1 : H} {w0 : World} {s : Sem Next} {v : V} (he : Ext μ0 h0 w0 μ h w0) (hg : GivesH P g μ h w0 s v h1) : GivesH P g μ0 h0 w0 s v h1 := by
  obtain ⟨r, w1, μ1, x, a, b, c, d, e⟩ := hg
  exact ⟨r, w1, μ1, x, a, b, c, he.trans d, e⟩

/-- what append comes to: in place, or in a new row -/
theorem appTail_ok {h h1 : H} (hr : HR P g μ h w) {elem : TypeId} {i : TypeInfo} {zv : Value} (hi : P.info? elem = some i) (hz : i.zero = some zv) (hzs : zv.cells.size = i.size)
    {base : Option (Nat × Nat)} {sl : Nat} {sc : Option Nat} {e0 : Nat} {n : Nat} {new : List V} {v : V} (hst : appendC h i.size i.bytes (.slice base sl sc e0) (some (n, new)) = some (v, h1))
    {s : Value} (hs : VR g μ (szOf w) (.slice base sl sc e0) s) {zeros : Bool} {x : Value} {appended : Sem (Array Value)} {xs : List Value} (hxl : xs.length = n * i.size)
    (happ : ∀ w' : World, w'.heap = w.heap → appended.run P w' = .ok xs.toArray w') (hxs : VRs g μ (szOf w) new xs) :
    ∃ base' cap, s = .slice base' sl cap ∧ GivesH P g μ h w (do pure (.value (← appTail elem i.size s base' sl cap n zeros x appended))) v h1 := by
  have hs0 := hs
  have hgsz : ∀ (cap : Nat) (olds : List Value), olds.length = sl * i.size → cap < sl + n → (olds.toArray ++ xs.toArray ++ Builtin.zeroCells zv.cells (grownCap w (sl + n) cap elem - (sl + n))).size = grownCap w (sl + n) cap elem * i.size := by
    intro cap olds ho _
    rw [Array.size_append, Array.size_append, size_zeroCells, hzs]
    simp only [List.size_toArray, ho, hxl]
    rw [← Nat.add_mul, ← Nat.add_mul]
    congr 1
    have := le_grownCap w (sl + n) cap elem
    omega
  -- nothing is appended
  by_cases hn0 : n = 0
  · subst hn0
    have hxs0 : xs = [] := List.length_eq_zero_iff.1 (by omega)
    subst hxs0
    simp only [appendC] at hst
    cases hst
    have stay : ∀ (b' : Option Addr) (cap : Nat), sl ≤ cap → VR g μ (szOf w) (.slice base sl sc e0) (.slice b' sl cap) → GivesH P g μ h w (do pure (.value (← appTail elem i.size (.slice b' sl cap) b' sl cap 0 zeros x appended))) (.slice base sl sc e0) h := by
      intro b' cap hle hv
      have hrun := run_stay (P := P) (w := w) (elem := elem) (size := i.size) (s := .slice b' sl cap) (x := x) (zeros := zeros) (base := b') (w1 := w) (show sl + 0 ≤ cap from hle) (happ w rfl) (by cases b' <;> rfl)
      exact ⟨.value (.slice b' sl cap), w, μ, _, by simp only [Sem.run_bind, hrun, Result.andThen_ok, Sem.run_pure]; rfl, .inl rfl, hr, Ext.refl _ _ _, hv⟩
    cases hs with
    | slcN c e hc => exact ⟨none, 0, rfl, stay _ _ (Nat.le_refl _) hs0⟩
    | slc ii o len cap esz b bs cap' m hmu hsb hm hl hc => exact ⟨_, cap', rfl, stay _ _ hl hs0⟩
    | slc0 ii o cap esz a bs hmu hc => exact ⟨_, 0, rfl, stay _ _ (Nat.le_refl _) hs0⟩
  · have hst' : (bif roomy (sl + n) i.bytes && (Nat.beq e0 i.size || base.isNone) && new.all plainV then
        match base with
        | none => some (V.slice (some (h.next, 0)) (sl + n) none i.size, h.new (.cells new .rw))
        | some (ii, off) =>
          match h.get ii with
          | some (.cells vs m) => match fullC sc (sl + n) with
            | true => match readN vs off (sl * i.size) with
              | some old => some (V.slice (some (h.next, 0)) (sl + n) none i.size, h.new (.cells (old ++ new) .rw))
              | none => none
            | false => match m with
              | .ro => none
              | m => match readN vs off (sl * i.size) with
                | some old => some (V.slice (some (h.next, 0)) (sl + n) none i.size, (h.del ii).new (.cells (old ++ new) .sh))
                | none => none
          | _ => none
        else none) = some (v, h1) := by
      obtain ⟨n', rfl⟩ : ∃ n', n = n' + 1 := ⟨n - 1, by omega⟩
      exact hst
    obtain ⟨hcond, hst2⟩ := cond_true hst'
    clear hst'
    simp only [Bool.and_eq_true, roomy, Nat.ble_eq, Bool.or_eq_true, Nat.beq_eq] at hcond
    obtain ⟨⟨⟨hroom, hroom2⟩, hesz⟩, hpl⟩ := hcond
    cases hs with
    | slcN c e hc =>
      cases hst2
      have hrun := run_grow (w := w) hi hz (sl := 0) (cap := 0) (n := n) (base := none) (s := .slice none 0 0) (x := x) (zeros := zeros) (olds := []) (by omega) hroom hroom2 (happ w.drew rfl) (run_firstCells_none w.drew _ _ _ _)
      refine ⟨none, 0, rfl, ?_⟩
      have := grown_ok (elem := elem) hr (m := .rw) (esz := i.size) (s := do pure (.value (← appTail elem i.size (.slice none 0 0) none 0 0 n zeros x appended))) rfl (.nil) hxs (fun e => nomatch e) (Nat.le_of_eq (hgsz 0 [] (by simp) (by omega)).symm) (le_grownCap w (0 + n) 0 elem) (by simp only [Sem.run_bind, hrun, Result.andThen_ok, Sem.run_pure])
      simpa using this
    | slc0 ii o cap esz a bs hmu hc =>
      simp only at hst2
      cases hg : h.get ii with
      | none => rw [hg] at hst2; cases hst2
      | some blk =>
        rw [hg] at hst2
        cases blk <;> (try (cases hst2; done))
        rename_i vs m
        simp only at hst2
        by_cases hfull : fullC sc (0 + n) = true
        · rw [hfull] at hst2
          simp only at hst2
          cases hrd : readN vs o (0 * i.size) with
          | none => rw [hrd] at hst2; cases hst2
          | some old =>
          rw [hrd] at hst2; cases hst2
          have hold0 : old = [] := List.length_eq_zero_iff.1 (by have := (readN_eq hrd).2; omega)
          subst hold0
          have hrun := run_grow (w := w) hi hz (sl := 0) (cap := 0) (n := n) (base := some a) (s := .slice (some a) 0 0) (x := x) (zeros := zeros) (olds := []) (by omega) hroom hroom2 (happ w.drew rfl) (by
            simp [Builtin.firstCells, loadCells, loadCellsFrom])
          refine ⟨_, 0, rfl, ?_⟩
          exact grown_ok (elem := elem) hr (m := .rw) (esz := i.size) rfl (.nil) hxs (fun e => nomatch e) (Nat.le_of_eq (hgsz 0 [] (by simp) (by omega)).symm) (le_grownCap w (0 + n) 0 elem) (by simp only [Sem.run_bind, hrun, Result.andThen_ok, Sem.run_pure])
        have hfull : fullC sc (0 + n) = false := by simpa using hfull
        rw [hfull] at hst2
        have hm : m ≠ .ro ∧ ∃ old, readN vs o (0 * i.size) = some old ∧ v = V.slice (some (h.next, 0)) (0 + n) none i.size ∧ h1 = (h.del ii).new (.cells (old ++ new) .sh) := by
          cases m <;> simp only at hst2 <;> (try (cases hst2; done))
          all_goals
            cases hrd : readN vs o (0 * i.size) with
            | none => rw [hrd] at hst2; cases hst2
            | some old => rw [hrd] at hst2; cases hst2; exact ⟨(fun e => nomatch e), old, rfl, rfl, rfl⟩
        obtain ⟨hmro, old, hrd, rfl, rfl⟩ := hm
        have hold0 : old = [] := List.length_eq_zero_iff.1 (by have := (readN_eq hrd).2; omega)
        subst hold0
        have hrun := run_grow (w := w) hi hz (sl := 0) (cap := 0) (n := n) (base := some a) (s := .slice (some a) 0 0) (x := x) (zeros := zeros) (olds := []) (by omega) hroom hroom2 (happ w.drew rfl) (by
          simp [Builtin.firstCells, loadCells, loadCellsFrom])
        obtain ⟨hd1, hd2⟩ := hr.del ii
        refine ⟨_, 0, rfl, GivesH.pre hd2 ?_⟩
        exact grown_ok (elem := elem) hd1 (m := .sh) (esz := i.size) rfl (.nil) hxs (fun e => nomatch e) (Nat.le_of_eq (hgsz 0 [] (by simp) (by omega)).symm) (le_grownCap w (0 + n) 0 elem) (by simp only [Sem.run_bind, hrun, Result.andThen_ok, Sem.run_pure])
    | slc ii o len cap esz b bs cap' m0 hmu hsb hm0 hl hc =>
      simp only at hst2
      have hesz' : e0 = i.size := hesz.resolve_right (by simp)
      subst hesz'
      cases hg : h.get ii with
      | none => rw [hg] at hst2; cases hst2
      | some blk =>
        rw [hg] at hst2
        cases blk <;> (try (cases hst2; done))
        rename_i vs m
        simp only at hst2
        by_cases hfull : fullC sc (sl + n) = true
        · rw [hfull] at hst2
          simp only at hst2
          cases hrd : readN vs o (sl * i.size) with
          | none => rw [hrd] at hst2; cases hst2
          | some old =>
          rw [hrd] at hst2; cases hst2
          obtain ⟨b', bs', hmu', hbr⟩ := hr.blk ii _ hg
          rw [hmu] at hmu'; cases hmu'
          obtain ⟨olds, hol, hor, hoc⟩ := row_read hbr hrd
          have hfit : cap' < sl + n := by
            unfold fullC at hfull
            cases sc with
            | none => cases hfull
            | some c =>
              have := hc c rfl
              subst this
              simpa using hfull
          have hrun := run_grow (w := w) hi hz (sl := sl) (cap := cap') (n := n) (base := some ⟨b, bs + o, none⟩) (s := .slice (some ⟨b, bs + o, none⟩) sl cap') (x := x) (zeros := zeros) (olds := olds) (by omega) hroom hroom2 (happ w.drew rfl)
              (run_firstCells_some w.drew _ _ _ _ _ olds hol hoc)
          refine ⟨_, cap', rfl, ?_⟩
          exact grown_ok (elem := elem) hr (m := .rw) (esz := i.size) rfl hor hxs (fun e => nomatch e) (Nat.le_of_eq (hgsz cap' olds hol (by omega)).symm) (le_grownCap w (sl + n) cap' elem) (by simp only [Sem.run_bind, hrun, Result.andThen_ok, Sem.run_pure])
        have hfull : fullC sc (sl + n) = false := by simpa using hfull
        rw [hfull] at hst2
        have hm : m ≠ .ro ∧ ∃ old, readN vs o (sl * i.size) = some old ∧ v = V.slice (some (h.next, 0)) (sl + n) none i.size ∧ h1 = (h.del ii).new (.cells (old ++ new) .sh) := by
          cases m <;> simp only at hst2 <;> (try (cases hst2; done))
          all_goals
            cases hrd : readN vs o (sl * i.size) with
            | none => rw [hrd] at hst2; cases hst2
            | some old => rw [hrd] at hst2; cases hst2; exact ⟨(fun e => nomatch e), old, rfl, rfl, rfl⟩
        obtain ⟨hmro, old, hrd, rfl, rfl⟩ := hm
        obtain ⟨b', bs', hmu', hbr⟩ := hr.blk ii _ hg
        rw [hmu] at hmu'; cases hmu'
        obtain ⟨olds, hol, hor, hoc⟩ := row_read hbr hrd
        refine ⟨_, cap', rfl, ?_⟩
        by_cases hfit : sl + n ≤ cap'
        · -- in place
          obtain ⟨c, e, fz, q1, q0, q2, q3, q4⟩ := hbr
          have hro : isRo m = false := by cases m <;> first | rfl | exact absurd rfl hmro
          have hown : (Blk.cells vs m).own = true := by cases m <;> first | rfl | exact absurd rfl hmro
          have hsb' : c.size = m0 := by rw [szOf_cells q1] at hsb; cases hsb; rfl
          have hbound : bs + o + sl * i.size + 0 + xs.length ≤ c.size := by
            rw [hxl]
            have : sl * i.size + n * i.size ≤ cap' * i.size := by rw [← Nat.add_mul]; exact Nat.mul_le_mul_right _ hfit
            omega
          have hone : ∀ y ∈ xs, y.oneCell' = true := by
            intro y hy
            obtain ⟨j, hj, rfl⟩ := List.mem_iff_getElem.1 hy
            have hjl : j < new.length := by rw [hxs.length]; exact hj
            obtain ⟨z, hz', hvr⟩ := hxs.get (List.getElem?_eq_getElem hjl)
            rw [List.getElem?_eq_getElem hj] at hz'; cases hz'
            exact plainV_one hvr (List.all_eq_true.1 hpl _ (List.getElem_mem hjl))
          obtain ⟨w1, r1, r2, r3, rio, c1, r4, r5, r6⟩ := run_storeCells (P := P) b xs (bs + o + sl * i.size) 0 w c e fz q1 hbound hone (q3 hro)
          have hrun := run_stay (P := P) (w := w) (elem := elem) (size := i.size) (s := .slice (some ⟨b, bs + o, none⟩) sl cap') (x := x) (zeros := zeros) (base := some ⟨b, bs + o, none⟩) (w1 := w1) hfit (happ w rfl) (by show (Go.storeCells ((⟨b, bs + o, none⟩ : Addr).add (sl * i.size)) xs).run P w = _; rw [add_off]; exact r1)
          have hsz := sz_of_same q1 r4 r5 r3
          have hle := Mu.le_add (x := (b, bs + o)) (hr.fresh h.next (Nat.le_refl _))
          have holdl := hor.length
          have hnewl := hxs.length
          have hbr1 : BR P g (μ.add h.next (b, bs + o)) w1 (.cells (old ++ new) .sh) b (bs + o) := by
            refine ⟨c1, e, fz, r4, by rw [List.length_append, r5, holdl, hnewl]; omega, fun j v hj => ?_, fun _ => by rw [r5]; exact q3 hro, fun e => nomatch e⟩
            by_cases hjo : j < old.length
            · rw [List.getElem?_append_left hjo] at hj
              obtain ⟨y, hy, hvr⟩ := hor.get hj
              refine ⟨y, ?_, hvr.mono hle hsz⟩
              rw [r6, if_neg (by omega)]
              have := hoc j y hy
              rw [add_off, cell_of_row w b _ c e fz q1] at this
              exact this
            · rw [List.getElem?_append_right (by omega)] at hj
              obtain ⟨y, hy, hvr⟩ := hxs.get hj
              have hjl := (List.getElem?_eq_some_iff.1 hy).1
              refine ⟨y, ?_, hvr.mono hle hsz⟩
              rw [r6, if_pos (by omega)]
              rw [show bs + o + j - (bs + o + sl * i.size + 0) = j - old.length by omega]; exact hy
          obtain ⟨k1, k2⟩ := HR.take hr ii (.cells vs m) (.cells (old ++ new) .sh) b bs (bs + o) hg hown hmu w1 r2 r3 hsz hbr1 rio
          refine ⟨.value (.slice (some ⟨b, bs + o, none⟩) (sl + n) cap'), w1, _, _, by simp only [Sem.run_bind, hrun, Result.andThen_ok, Sem.run_pure], .inl rfl, k1, k2, ?_⟩
          have := VR.slc (g := g) h.next 0 (sl + n) none i.size b (bs + o) cap' m0 (Mu.add_same μ h.next (b, bs + o)) (hsz _ _ hsb) (by omega) hfit (fun x hx => by cases hx)
          simpa using this
        · -- a new row
          have hrun := run_grow (w := w) hi hz (sl := sl) (cap := cap') (n := n) (base := some ⟨b, bs + o, none⟩) (s := .slice (some ⟨b, bs + o, none⟩) sl cap') (x := x) (zeros := zeros) (olds := olds) (by omega) hroom hroom2 (happ w.drew rfl)
            (run_firstCells_some w.drew _ _ _ _ _ olds hol hoc)
          obtain ⟨hd1, hd2⟩ := hr.del ii
          refine GivesH.pre hd2 ?_
          exact grown_ok (elem := elem) hd1 (m := .sh) (esz := i.size) rfl hor hxs (fun e => nomatch e) (Nat.le_of_eq (hgsz cap' olds hol (by omega)).symm) (le_grownCap w (sl + n) cap' elem) (by simp only [Sem.run_bind, hrun, Result.andThen_ok, Sem.run_pure])
end Go.Eng

/-
  ENGINE, part 15: every operation that calls nothing. Own work.
-/
namespace Go.Eng
open Go

variable {P : Program} {g : Gn} {μ : Mu} {w : World}

theorem ofBytes_get : ∀ (l : List Nat), (ofBytes l).length = l.length ∧ ∀ (j : Nat), (ofBytes l)[j]? = (l[j]?).map fun n => V.int .u8 (.ofNat n) := by
  intro l
  induction l with
  | nil => exact ⟨rfl, fun j => rfl⟩
  | cons a l ih => exact ⟨by simp [ofBytes, ih.1], fun j => by cases j with | zero => rfl | succ j => simpa [ofBytes] using ih.2 j⟩

theorem src_ok {h : H} (hr : HR P g μ h w) {esz : Nat} {a : V} {x : Value} (hx : VR g μ (szOf w) a x) {n : Nat} {new : List V} (hs : srcCells h esz a = some (n, new)) :
    ∃ xs : List Value, (∀ w', (Builtin.lenOf x).run P w' = .ok n w') ∧ xs.length = n * esz ∧ VRs g μ (szOf w) new xs ∧
      ∀ (w' : World) (m : Nat), w'.heap = w.heap → m ≤ n → (Builtin.firstCells esz m x).run P w' = .ok (xs.take (m * esz)).toArray w' := by
  cases hx <;> (try (cases hs; done))
  case str s bs hb =>
    simp only [srcCells] at hs
    obtain ⟨he, hs⟩ := cond_true hs
    have he := Nat.eq_of_beq_eq_true he
    subst he
    cases hs
    have hlen : s.length = bs.size := by rw [← hb, List.length_map]; exact Array.length_toList
    refine ⟨bs.data.toList.map fun b => .int .u8 b.toNat, fun w' => ?_, ?_, ?_, fun w' m hw hm => ?_⟩
    · simp [Builtin.lenOf, hlen]
    · rw [List.length_map, show bs.data.toList.length = bs.size from Array.length_toList, hlen, Nat.mul_one]
    · refine VRs.of_get (by rw [(ofBytes_get s).1, List.length_map, hlen]; exact Array.length_toList.symm) fun j v y hv hy => ?_
      rw [(ofBytes_get s).2, ← hb, List.getElem?_map, Option.map_map, Option.map_eq_some_iff] at hv
      obtain ⟨c, hc, rfl⟩ := hv
      rw [List.getElem?_map, hc] at hy
      cases hy
      exact .int _ _
    · simp only [Builtin.firstCells, Sem.run_pure, Nat.mul_one]
      congr 1
      rw [← Array.toList_inj]
      simp [ByteArray.data_extract, Array.toList_extract, List.extract_eq_take_drop, List.map_take]
  case slcN c e hc =>
    cases hs
    refine ⟨[], fun w' => rfl, by simp, .nil, fun w' m hw hm => ?_⟩
    simp [Builtin.firstCells]
  case slc i o len cap esz0 b base cap' nn hmu hsb hn hl hc =>
    cases len with
    | zero =>
      cases hs
      refine ⟨[], fun w' => rfl, by simp, .nil, fun w' m hw hm => ?_⟩
      have : m = 0 := by omega
      subst this
      simp [Builtin.firstCells, loadCells, loadCellsFrom]
    | succ len =>
      simp only [srcCells] at hs
      cases hca : cellsAt h i with
      | none => rw [hca] at hs; cases hs
      | some vs =>
        rw [hca] at hs
        simp only at hs
        cases hrd : readN vs o ((len + 1) * esz) with
        | none => rw [hrd] at hs; cases hs
        | some l =>
          rw [hrd] at hs; cases hs
          obtain ⟨m0, hm0⟩ := cellsAt_some hca
          obtain ⟨b', base', hmu', hbr⟩ := hr.blk i _ hm0
          rw [hmu] at hmu'; cases hmu'
          obtain ⟨xs, hxl, hxr, hxc⟩ := row_read hbr hrd
          refine ⟨xs, fun w' => rfl, hxl, hxr, fun w' m hw hm => ?_⟩
          have hml : m * esz ≤ xs.length := by rw [hxl]; exact Nat.mul_le_mul_right _ hm
          refine run_firstCells_some w' esz m _ _ _ (xs.take (m * esz)) (by simp; omega) fun j v hj => ?_
          rw [List.getElem?_take] at hj
          split at hj
          · have := hxc j v hj
            unfold World.cell? at this ⊢
            rw [hw]; exact this
          · cases hj
  case slc0 i o cap esz0 a base hmu hc =>
    cases hs
    refine ⟨[], fun w' => rfl, by simp, .nil, fun w' m hw hm => ?_⟩
    have : m = 0 := by omega
    subst this
    simp [Builtin.firstCells, loadCells, loadCellsFrom]

theorem append_ok {h h1 : H} (hr : HR P g μ h w) {esz bytes : Nat} {a b v : V} {x y : Value} (hx : VR g μ (szOf w) a x) (hy : VR g μ (szOf w) b y) (hst : appendC h esz bytes a (srcCells h esz b) = some (v, h1))
    {ats : Array TypeId} {ty sT xT e : TypeId} {args : Array Value} (h0 : ats[0]? = some sT) (h1' : ats[1]? = some xT) (a0 : args[0]? = some x) (a1 : args[1]? = some y)
    (hs : P.underlying sT = some (.slice e)) (hxt : ∃ d, P.underlying xT = some d ∧ isIntT d = false) {i : TypeInfo} (hi : P.info? e = some i) (hez : i.size = esz) (heb : i.bytes = bytes) {zv : Value} (hz : i.zero = some zv) (hzs : zv.cells.size = i.size) :
    GivesH P g μ h w (do pure (.value (← Builtin.append_ ats ty args))) v h1 := by
  subst hez; subst heb
  cases hsrc : srcCells h i.size b with
  | none =>
    rw [hsrc] at hst
    cases a <;> cases hst
  | some p =>
    obtain ⟨n, new⟩ := p
    rw [hsrc] at hst
    obtain ⟨xs, c1, c2, c3, c4⟩ := src_ok hr hy hsrc
    cases a <;> (try (cases hst; done))
    rename_i base sl sc e0
    obtain ⟨base', cap, rfl, hg⟩ := appTail_ok hr hi hz hzs (zeros := false) (x := y) (appended := Builtin.firstCells i.size n y) hst hx c2 (fun w' hw => by
      rw [c4 w' n hw (Nat.le_refl _), ← c2, List.take_length]) c3
    obtain ⟨r, w1, μ1, z, q1, q2, q3, q4, q5⟩ := hg
    refine ⟨r, w1, μ1, z, ?_, q2, q3, q4, q5⟩
    have := append_eq (P := P) (w := w) (ty := ty) h0 h1' a0 a1 hs hxt (size := i.size) (by simp [sizeT, hi]) (c1 w)
    simp only [Sem.run_bind] at q1 ⊢
    rw [this]; exact q1

theorem appendZ_ok {h h1 : H} (hr : HR P g μ h w) {T : Tr V} {s' n' : O} {v : V} {x y : Value} (hx : VR g μ (szOf w) (evO T s') x) (hy : VR g μ (szOf w) (evO T n') y) {z : V} {bytes : Nat} {Q : Orc} (hst : o_appendZ z.cells bytes s' n' Q T h = some (v, h1))
    {ats : Array TypeId} {ty sT xT e : TypeId} {args : Array Value} (h0 : ats[0]? = some sT) (h1' : ats[1]? = some xT) (a0 : args[0]? = some x) (a1 : args[1]? = some y)
    (hs : P.underlying sT = some (.slice e)) {k0 : IntKind} (hxt : P.underlying xT = some (.int k0)) {i : TypeInfo} (hi : P.info? e = some i) (heb : i.bytes = bytes) (hz : zeroOf P e = some z) (hzl : z.cells.length = i.size) :
    GivesH P g μ h w (do pure (.value (← Builtin.append_ ats ty args))) v h1 := by
  subst heb
  unfold o_appendZ at hst
  generalize evO T n' = u at hy hst
  obtain ⟨k, n, rfl, rfl⟩ : ∃ k n, u = .int k (.ofNat n) ∧ y = .int k (.ofNat n) := by
    cases hy <;> (try (cases hst; done))
    rename_i k n
    cases n with
    | ofNat n => exact ⟨_, _, rfl, rfl⟩
    | negSucc n => cases hst
  simp only at hst
  obtain ⟨hroom, hst⟩ := cond_true hst
  simp only [roomy, Bool.and_eq_true, Nat.ble_eq] at hroom
  generalize evO T s' = a at hx hst
  obtain ⟨zx, hzx, hzr⟩ := zeroOf_ok (g := g) (μ := μ) (sz := szOf w) hz
  have hi0 : i.zero = some zx := by
    have := hzx w
    simp only [zeroValue, typeInfo, Sem.run_bind, run_program, Result.andThen_ok, hi, Sem.run_pure] at this
    cases hz0 : i.zero with
    | none => rw [hz0] at this; cases this
    | some y => rw [hz0] at this; cases this; rfl
  have hcl := hzr.cells.length
  have t1 : zx.cells.toList.length = zx.cells.size := Array.length_toList
  have hzs : zx.cells.size = i.size := by omega
  have hmade := madeCells_ok hzr.cells n
  have hml := hmade.length
  rw [hzl] at hst
  cases a <;> (try (cases hst; done))
  rename_i base sl sc e0
  have t2 : (madeCells zx.cells (n * zx.cells.size)).toList.length = (madeCells zx.cells (n * zx.cells.size)).size := Array.length_toList
  rw [size_madeCells] at t2
  have happ : ∀ w' : World, (if n * i.size = 0 then pure #[] else do pure (Builtin.zeroCells (← zeroValue e).cells n) : Sem (Array Value)).run P w' = .ok (madeCells zx.cells (n * zx.cells.size)).toList.toArray w' := by
    intro w'
    by_cases h0 : n * i.size = 0
    · rw [if_pos h0, hzs, h0]
      simp [madeCells]
    · rw [if_neg h0]
      simp only [Sem.run_bind, hzx, Result.andThen_ok, Sem.run_pure]
      rfl
  obtain ⟨base', cap, rfl, hg⟩ := appTail_ok hr hi hi0 hzs (zeros := true) (x := .int k (.ofNat n)) (appended := (if n * i.size = 0 then pure #[] else do pure (Builtin.zeroCells (← zeroValue e).cells n) : Sem (Array Value))) hst hx (by rw [t2, hzs]) (fun w' _ => happ w') hmade
  obtain ⟨r, w1, μ1, zz, q1, q2, q3, q4, q5⟩ := hg
  refine ⟨r, w1, μ1, zz, ?_, q2, q3, q4, q5⟩
  have hwrap : IntKind.i64.wrap (n : Int) = n := by
    rw [← wr_eq]
    unfold wr
    have : low .i64 (n : Int) = n := by show n % two .i64 = n; exact Nat.mod_eq_of_lt (by simp only [two]; omega)
    rw [this]
    unfold asK
    rw [cond_blt, if_pos (by simp only [half]; omega)]
    rfl
  have hsize : sizeT P e = some i.size := by simp [sizeT, hi]
  have hti : ∀ w : World, (typeInfo e).run P w = .ok i w := fun w => by simp [typeInfo, hi]
  have c1 : ¬ (n : Int) < 0 := by omega
  have c2 : ¬ (n : Int) * (i.bytes : Int) > 2 ^ 48 := by
    have : (n : Int) * (i.bytes : Int) = ((n * i.bytes : Nat) : Int) := by rw [Int.natCast_mul]
    rw [this]; omega
  have : (Builtin.append_ ats ty args).run P w = (appTail e i.size (.slice base' sl cap) base' sl cap n true (.int k (.ofNat n)) (if n * i.size = 0 then pure #[] else do pure (Builtin.zeroCells (← zeroValue e).cells n))).run P w := by
    simp only [Builtin.append_, h0, h1', a0, a1, Sem.run_bind, run_und hs, Result.andThen_ok, run_szT hsize, run_und hxt, Sem.run_pure]
    have hwrap' : IntKind.i64.wrap (Int.ofNat n) = (n : Int) := hwrap
    have ha : ∀ w : World, (asInt (.int k (.ofNat n))).run P w = .ok (Int.ofNat n) w := fun w => rfl
    simp only [appTail, if_true, Sem.run_bind, ha, Result.andThen_ok, hwrap', if_neg c1, hti, if_neg c2, pure_bind, Int.toNat_natCast, Bool.not_true, Bool.false_eq_true, if_false]
    rfl
  simp only [Sem.run_bind] at q1 ⊢
  rw [this]; exact q1

theorem copy_ok {h h1 : H} (hr : HR P g μ h w) {T : Tr V} {d' s' : O} {v : V} {x y : Value} (hx : VR g μ (szOf w) (evO T d') x) (hy : VR g μ (szOf w) (evO T s') y) {esz : Nat} {Q : Orc} (hst : o_copy esz d' s' Q T h = some (v, h1))
    {ats : Array TypeId} {ty dT e : TypeId} {args : Array Value} (h0 : ats[0]? = some dT) (a0 : args[0]? = some x) (a1 : args[1]? = some y) (hs : P.underlying dT = some (.slice e)) (hez : sizeT P e = some esz) :
    GivesH P g μ h w (do pure (.value (← Builtin.copy_ ats ty args))) v h1 := by
  unfold o_copy at hst
  generalize evO T d' = a at hx hst
  generalize evO T s' = b at hy hst
  cases a <;> (try (cases hst; done))
  rename_i base dl dc e0
  simp only at hst
  cases hsrc : srcCells h esz b with
  | none => rw [hsrc] at hst; cases hst
  | some p =>
    obtain ⟨n, l⟩ := p
    rw [hsrc] at hst
    simp only at hst
    obtain ⟨xs, c1, c2, c3, c4⟩ := src_ok hr hy hsrc
    have hmin : (bif Nat.ble n dl then n else dl) = Nat.min n dl := by
      rw [cond_ble]
      show _ = min n dl
      split <;> omega
    rw [hmin] at hst
    have hle : Nat.min n dl ≤ n := Nat.min_le_left _ _
    obtain ⟨base', cap, rfl⟩ : ∃ base' cap, x = .slice base' dl cap := by cases hx <;> exact ⟨_, _, rfl⟩
    have hrun : ∀ (w1 : World), (match base' with | some ad => (Go.storeCells ad (xs.take (Nat.min n dl * esz))).run P w = .ok () w1 | none => w1 = w) →
        (Builtin.copy_ ats ty args).run P w = .ok (goInt (Nat.min n dl)) w1 := by
      intro w1 h1'
      simp only [Builtin.copy_, h0, a0, a1, Sem.run_bind, run_und hs, Result.andThen_ok, c1, run_szT hez, c4 w _ rfl hle]
      cases base' with
      | none =>
        have h2 : w1 = w := h1'
        rw [h2]; simp
      | some ad =>
        simp only [Sem.run_bind]
        rw [h1']; rfl
    cases hk : Nat.min n dl with
    | zero =>
      rw [hk] at hst hrun
      cases hst
      have := hrun w (by cases base' with | none => rfl | some ad => simp [Go.storeCells])
      exact ⟨.value (goInt 0), w, μ, _, by simp only [Sem.run_bind, this, Result.andThen_ok, Sem.run_pure]; rfl, .inl rfl, hr, Ext.refl _ _ _, .int _ _⟩
    | succ m =>
      rw [hk] at hst hrun
      simp only at hst
      cases base with
      | none => cases hst
      | some p =>
        obtain ⟨i, off⟩ := p
        simp only at hst
        cases hc : copyC h i off (l.take ((m + 1) * esz)) with
        | none => rw [hc] at hst; cases hst
        | some h2 =>
          rw [hc] at hst
          cases hst
          obtain ⟨hpl, hsc⟩ := cond_true hc
          have hdl : m + 1 ≤ dl := by rw [← hk]; exact Nat.min_le_right _ _
          cases hx with
          | slc0 => omega
          | slc _ _ _ _ _ b' bs cap' nn hmu hsb hn hl' hc' =>
            obtain ⟨w1, r1, r2, r3⟩ := storeCells_ok hr hsc hmu (c3.take ((m + 1) * esz)) hpl
            have := hrun w1 r1
            exact ⟨.value (goInt ((m + 1 : Nat) : Int)), w1, μ, _, by simp only [Sem.run_bind, this, Result.andThen_ok, Sem.run_pure], .inl rfl, r2, r3, .int _ _⟩

theorem slcA_ok {h h1 : H} (hr : HR P g μ h w) {T : Tr V} {ρ : Operand → Value} (hO : OR g μ (szOf w) T ρ) {x : Operand} {lo hi mx : Option Operand} {x' : O} {lo' hi' mx' : Option O} {v : V} {n esz : Nat} {Q : Orc}
    (hx : oOf g.f x = some x') (hlo : optM g.f lo = some lo') (hhi : optM g.f hi = some hi') (hmx : optM g.f mx = some mx') (hst : o_slcA n esz x' lo' hi' mx' Q T h = some (v, h1))
    {t e : TypeId} (ht : P.underlying t = some (.array n e)) (he : sizeT P e = some esz) : h1 = h ∧ Gives P g μ (szOf w) w (Instr.sliceAt t (ρ x) (lo.map ρ) (hi.map ρ) (mx.map ρ)) v := by
  have hv := hO _ _ hx
  unfold o_slcA at hst
  generalize evO T x' = a at hv hst
  revert hv
  generalize ρ x = z
  intro hv
  cases a <;> (try (cases hst; done))
  rename_i ad
  cases ad with
  | none => cases hst
  | some p =>
    obtain ⟨i, off⟩ := p
    cases mx' with
    | some m => cases hst
    | none =>
      have hmx' : mx = none := by
        cases mx with
        | none => rfl
        | some o =>
          simp only [optM] at hmx
          cases ho : oOf g.f o with
          | none => rw [ho] at hmx; cases hmx
          | some a => rw [ho] at hmx; cases hmx
      subst hmx'
      simp only at hst
      cases hg : h.get i with
      | none => rw [hg] at hst; cases hst
      | some blk =>
        rw [hg] at hst
        cases blk <;> (try (cases hst; done))
        rename_i vs m
        simp only at hst
        obtain ⟨hle, hst⟩ := cond_true hst
        rw [Nat.ble_eq] at hle
        obtain ⟨b, base, hmu, hbr⟩ := hr.blk i _ hg
        obtain ⟨c, e', fz, q1, q0, q2, q3, q4⟩ := hbr
        cases hv with
        | ptr _ _ b' base' hmu' =>
          rw [hmu] at hmu'; cases hmu'
          have hl := opt_list hO hlo
          have hh := opt_list hO hhi
          cases hb : bnd (evM T hi') n n with
          | none => rw [hb] at hst; cases hst
          | some bb =>
            rw [hb] at hst
            simp only at hst
            cases hl0 : bnd (evM T lo') 0 bb with
            | none => rw [hl0] at hst; cases hst
            | some l =>
              rw [hl0] at hst
              cases hst
              have hb' := bnd_ok (P := P) (w := w) hh.1 hh.2 hb n (Nat.le_refl _) .sliceAlen
              have hbc : bb ≤ n := by rcases hb' with ⟨_, _, rfl⟩ | ⟨_, _, _, h3⟩ <;> omega
              have hl' := bnd_ok (P := P) (w := w) hl.1 hl.2 hl0 bb (Nat.le_refl _) .sliceB
              have hlb : l ≤ bb := by rcases hl' with ⟨_, _, rfl⟩ | ⟨_, _, _, h3⟩ <;> omega
              have hrun : (Instr.sliceBounds false n n (lo.map ρ) (hi.map ρ) none).run P w = .ok (l, bb, n) w := by
                rcases hb' with ⟨_, h2, h3⟩ | ⟨y, h2, hy, _⟩ <;> rcases hl' with ⟨_, h4, h5⟩ | ⟨z, h4, hz, _⟩ <;> rw [h2, h4]
                · subst h3; subst h5; simp [Instr.sliceBounds]
                · subst h3; simp [Instr.sliceBounds, hz]
                · subst h5; simp [Instr.sliceBounds, hy]
                · simp [Instr.sliceBounds, hy, hz]
              refine ⟨rfl, .slice (some (if n = l then ⟨b, base + off, none⟩ else (⟨b, base + off, none⟩ : Addr).add (l * esz))) (bb - l) (n - l), ?_, ?_⟩
              · simp only [Instr.sliceAt, Sem.run_bind, run_und ht, Result.andThen_ok, Instr.sureAddr, Sem.run_pure, Option.map_none, hrun, run_szT he]
              · by_cases hnl : n = l
                · rw [if_pos hnl]
                  have e1 : bb - l = 0 := by omega
                  have e2 : n - l = 0 := by omega
                  rw [e1, e2]
                  exact .slc0 _ _ _ _ _ base hmu (fun x hx => by cases hx; rfl)
                · rw [if_neg hnl, add_off, Nat.add_assoc]
                  refine .slc _ _ _ _ _ b base (n - l) c.size hmu (szOf_cells q1) ?_ (by omega) (fun x hx => by cases hx; rfl)
                  have : l * esz + (n - l) * esz = n * esz := by rw [← Nat.add_mul]; congr 1; omega
                  omega

/-- pointers held against each other -/
theorem eqPtr_ok {h : H} (hr : HR P g μ h w) {t : TypeId} (he : eqK P t = some (.ref .p)) {a b : V} {x y : Value} (ha : VR g μ (szOf w) a x) (hb : VR g μ (szOf w) b y) {r : Bool} (hs : eqPtr h a b = some r) :
    (Op.equal t x y).run P w = .ok r w ∧ ∃ p q, x = .pointer p ∧ y = .pointer q := by
  obtain ⟨e, n, hu, hn⟩ : ∃ e n, P.underlying t = some (.pointer e) ∧ sizeT P e = some (n + 1) := by
    unfold eqK at he
    cases hu : P.underlying t with
    | none => rw [hu] at he; cases he
    | some d =>
      rw [hu] at he
      cases d <;> simp only at he <;> (try (cases he; done))
      case pointer e =>
        split at he
        · rename_i n hn; exact ⟨e, n, rfl, hn⟩
        · cases he
      all_goals
        split at he
        · cases he
        · simp at he
  obtain ⟨d, hd⟩ : ∃ d, ∀ u v, Op.equal t u v = Op.equalIn (d + 1) t u v := ⟨9999, fun _ _ => rfl⟩
  cases ha <;> (try (cases hs; done)) <;> cases hb <;> (try (cases hs; done))
  · cases hs; exact ⟨by rw [hd]; simp only [Op.equalIn, Sem.run_bind, run_und hu, Result.andThen_ok]; rfl, _, _, rfl, rfl⟩
  · cases hs; exact ⟨by rw [hd]; simp only [Op.equalIn, Sem.run_bind, run_und hu, Result.andThen_ok]; rfl, _, _, rfl, rfl⟩
  · cases hs; exact ⟨by rw [hd]; simp only [Op.equalIn, Sem.run_bind, run_und hu, Result.andThen_ok]; rfl, _, _, rfl, rfl⟩
  · rename_i i o b bs hmu j o2 b2 bs2 hmu2
    refine ⟨?_, _, _, rfl, rfl⟩
    have hred : ∀ (u v : Addr), (Op.equal t (.pointer (some u)) (.pointer (some v))).run P w = (sameAddr u v).run P w := by
      intro u v
      rw [hd]
      simp only [Op.equalIn, Sem.run_bind, run_und hu, Result.andThen_ok, run_szT hn]
      rw [if_pos (by omega)]
    rw [hred]
    simp only [eqPtr] at hs
    cases hij : Nat.beq i j with
    | true =>
      rw [hij] at hs
      have := Nat.eq_of_beq_eq_true hij
      subst this
      rw [hmu] at hmu2; cases hmu2
      cases hs
      simp only [sameAddr, beq_self_eq_true, if_true]
      have : ((⟨b, bs + o, none⟩ : Addr) == ⟨b, bs + o2, none⟩) = Nat.beq o o2 := by
        rw [Bool.eq_iff_iff, beq_iff_eq]
        simp
      rw [this]; rfl
    | false =>
      rw [hij] at hs
      have hne := Nat.ne_of_beq_eq_false hij
      simp only [cond_false] at hs
      split at hs
      · rename_i vs1 vs2 hg1 hg2
        cases hs
        obtain ⟨b', bs', hm1, hbr1⟩ := hr.blk i _ hg1
        rw [hmu] at hm1; cases hm1
        obtain ⟨b2', bs2', hm2, hbr2⟩ := hr.blk j _ hg2
        rw [hmu2] at hm2; cases hm2
        have hbne : b ≠ b2 := fun e => hne (hr.inj i j _ _ b bs bs2 hg1 hg2 rfl hmu (by rw [e]; exact hmu2))
        obtain ⟨c1, e1, fz1, p1, _, _, _, p4⟩ := hbr1
        obtain ⟨c2, e2, fz2, q1, _, _, _, q4⟩ := hbr2
        have z1 := p4 rfl
        have z2 := q4 rfl
        have f1 : ∀ o, w.frozen? ⟨b, o, none⟩ = false := by intro o; simp only [World.frozen?, p1, z1]; simp
        have f2 : ∀ o, w.frozen? ⟨b2, o, none⟩ = false := by intro o; simp only [World.frozen?, q1, z2]; simp
        have s1 : w.shape? b = some (e1, c1.size) := by simp [World.shape?, p1]
        have s2 : w.shape? b2 = some (e2, c2.size) := by simp [World.shape?, q1]
        have hbb : (b == b2) = false := by simpa using hbne
        simp only [sameAddr, hbb, Bool.false_eq_true, if_false, Sem.run_bind, run_frozen, f1, f2, Result.andThen_ok, noView, viewAt, run_shape, s1, s2, mayBeOne, stringish]
        simp [f1, f2, s1, s2]
      · cases hs
end Go.Eng

/-
  ENGINE, part 16: every operation that calls nothing, in one theorem. Own work.
-/
namespace Go.Eng
open Go

variable {P : Program} {g : Gn} {μ : Mu} {w : World}

/-- does the operation call a function? -/
def isCall : A → Bool
  | .call .. | .callv .. => true
  | _ => false

theorem some_get {α : Type} {x : Array α} {i : Nat} {a : α} (h : x[i]? = some a) : x[i]? = some a := h

theorem heap_ok {h0 h1 : H} (hr : HR P g μ h0 w) {T : Tr V} {ρ : Operand → Value} (hO : OR g μ (szOf w) T ρ) {o : Oper} {a : A} (h : trA P g.f o = some a) (hc : isCall a = false) {Q : Orc} {v : V} (hs : step a Q T h0 = some (v, h1)) :
    GivesH P g μ h0 w (execOp ρ o) v h1 := by
  by_cases hcl : clsA a = 0
  · obtain ⟨rfl, hg⟩ := pure_ok (w := w) hO h hcl hs
    exact hg.heap hr
  cases ho : o.op
  all_goals have hh := h; unfold trA at hh; rw [ho] at hh
  all_goals try (simp only [Option.bind_eq_bind, Option.bind_eq_some_iff, Option.pure_def, Option.some.injEq] at hh)
  case alloc e =>
    obtain ⟨z, hz, rfl⟩ := hh
    cases hs
    have := (alloc_ok (g := g) hz).heap hr
    simpa only [execOp, ho] using this
  case box e x =>
    obtain ⟨y, hy, rfl⟩ := hh
    cases hs
    have := (box_ok (e := e) (hO _ _ hy)).heap hr
    simpa only [execOp, ho] using this
  case buildSlice t n ps =>
    cases hu : P.underlying t with
    | none => rw [hu] at hh; cases hh
    | some d =>
      rw [hu] at hh
      cases d <;> simp only [reduceCtorEq, Option.bind_eq_some_iff, Option.some.injEq] at hh <;> (try (exact hh.elim))
      obtain ⟨s, hsz, z, hz, qs, hq, rfl⟩ := hh
      have := (buildS_ok (Q := Q) hO hu hsz hz hq hs).heap hr
      have e1 : (ps.toList.map fun (i, x) => (i, ρ x)).toArray = ps.map fun (i, x) => (i, ρ x) := by
        rw [← Array.toList_inj]; simp
      rw [e1] at this
      simpa only [execOp, ho] using this
  case load t x =>
    obtain ⟨n, hn, y, hy, rfl⟩ := hh
    obtain ⟨e1, rfl⟩ := same_some hs
    have := ((load_ok hr hn (hO _ _ hy) e1).next).heap hr
    simpa only [execOp, ho] using this
  case store t x y =>
    obtain ⟨n, hn, x', hx, y', hy, rfl⟩ := hh
    change o_store n x' y' Q T h0 = _ at hs
    unfold o_store at hs
    cases hst : storeV h0 n (evO T x') (evO T y') with
    | none => rw [hst] at hs; cases hs
    | some h2 =>
      rw [hst] at hs; cases hs
      have := store_ok hr hn (hO _ _ hx) (hO _ _ hy) hst
      simpa only [execOp, ho] using this
  case binOp op t x y ty =>
    have key : ∃ e x' y', (op = .eql ∨ op = .neq → eqK P t = some e) ∧ oOf g.f x = some x' ∧ oOf g.f y = some y' ∧ a = .bin op e x' y' := by
      cases op <;> simp only [Option.bind_eq_bind, Option.bind_eq_some_iff, Option.pure_def, Option.some.injEq] at hh
      case eql => obtain ⟨e, he, x', hx, y', hy, rfl⟩ := hh; exact ⟨e, x', y', fun _ => he, hx, hy, rfl⟩
      case neq => obtain ⟨e, he, x', hx, y', hy, rfl⟩ := hh; exact ⟨e, x', y', fun _ => he, hx, hy, rfl⟩
      all_goals obtain ⟨x', hx, y', hy, rfl⟩ := hh; exact ⟨.no, x', y', (fun hh => by rcases hh with hh | hh <;> cases hh), hx, hy, rfl⟩
    obtain ⟨e, x', y', he, hx, hy, rfl⟩ := key
    have hep : e = .ref .p := by
      cases e with
      | ref k => cases k <;> first | rfl | exact absurd rfl hcl
      | _ => exact absurd rfl hcl
    subst hep
    obtain ⟨e1, rfl⟩ := same_some hs
    have hvx := hO _ _ hx
    have hvy := hO _ _ hy
    have : Gives P g μ (szOf w) w (do eqGuard op t x y (ρ x) (ρ y); binOp op t (ρ x) (ρ y)) v := by
      refine bin_ok (fun hop r hq => ?_) hvx hvy e1
      obtain ⟨q1, p, q, q2, q3⟩ := eqPtr_ok hr (he hop) hvx hvy hq
      exact ⟨q1, by rw [q2, q3]; trivial⟩
    have := this.next.heap hr
    simpa only [execOp, ho] using this
  case convert s d x =>
    cases hus : P.underlying s with
    | none => rw [hus] at hh; cases hh
    | some us =>
      cases hud : P.underlying d with
      | none => rw [hus, hud] at hh; cases us <;> cases hh
      | some ud =>
        rw [hus, hud] at hh
        cases us <;> cases ud <;> simp only [reduceCtorEq, Option.bind_eq_some_iff, Option.some.injEq] at hh <;> (try (exact hh.elim))
        case int.int ks k => obtain ⟨x', hx, rfl⟩ := hh; exact absurd rfl hcl
        case string.string => obtain ⟨x', hx, rfl⟩ := hh; exact absurd rfl hcl
        case string.slice e =>
          split at hh <;> simp only [reduceCtorEq, Option.bind_eq_some_iff, Option.some.injEq] at hh
          rename_i hue
          obtain ⟨x', hx, rfl⟩ := hh
          have := (s2b_ok (Q := Q) (hO _ _ hx) hs hus hue hud).heap hr
          simpa only [execOp, ho] using this
        case slice.string e =>
          split at hh <;> simp only [reduceCtorEq, Option.bind_eq_some_iff, Option.some.injEq] at hh
          rename_i hue
          obtain ⟨x', hx, rfl⟩ := hh
          obtain ⟨e1, rfl⟩ := same_some hs
          have := ((b2s_ok hr (hO _ _ hx) e1 hus hue hud).next).heap hr
          simpa only [execOp, ho] using this
        case slice.slice e e' =>
          split at hh <;> simp only [reduceCtorEq, Option.bind_eq_some_iff, Option.some.injEq] at hh
          rename_i hsd hue
          obtain ⟨x', hx, rfl⟩ := hh
          have hsd' : s = d := by simpa using hsd
          subst hsd'
          have := mark_ok (Q := Q) hr (hO _ _ hx) hs hud hue
          simpa only [execOp, ho] using this
  case makeSlice t x y =>
    cases hu : P.underlying t with
    | none => rw [hu] at hh; cases hh
    | some d =>
      rw [hu] at hh
      cases d <;> simp only [reduceCtorEq, Option.bind_eq_some_iff, Option.some.injEq] at hh <;> (try (exact hh.elim))
      obtain ⟨i, hi, z, hz, _, hb, x', hx, y', hy, rfl⟩ := hh
      have := (mkslice_ok (Q := Q) (hO _ _ hx) (hO _ _ hy) hs hu hi hz (by simpa using okB_true hb)).heap hr
      simpa only [execOp, ho] using this
  case slice t x lo hi mx =>
    cases hu : P.underlying t with
    | none => rw [hu] at hh; cases hh
    | some d =>
      rw [hu] at hh
      cases d <;> simp only [reduceCtorEq, Option.bind_eq_some_iff, Option.some.injEq] at hh <;> (try (exact hh.elim))
      case string =>
        split at hh <;> simp only [reduceCtorEq, Option.bind_eq_some_iff, Option.some.injEq] at hh
        obtain ⟨x', hx, lo', hlo, hi', hhi, rfl⟩ := hh
        exact absurd rfl hcl
      case slice e =>
        obtain ⟨n, hn, x', hx, lo', hlo, hi', hhi, mx', hmx, rfl⟩ := hh
        exact absurd rfl hcl
      case array n e =>
        obtain ⟨m, hm, x', hx, lo', hlo, hi', hhi, mx', hmx, rfl⟩ := hh
        obtain ⟨rfl, hg⟩ := slcA_ok (Q := Q) hr hO hx hlo hhi hmx hs hu hm
        have := hg.next.heap hr
        simpa only [execOp, ho] using this
  case call c =>
    cases hcal : c.callee with
    | value f =>
      rw [hcal] at hh
      cases f <;> simp only [Option.bind_eq_some_iff, Option.some.injEq] at hh
      case func f =>
        cases hbo : bitsOp P f with
        | none =>
          simp only [hbo, Option.bind_eq_some_iff, Option.some.injEq] at hh
          obtain ⟨as, has, rfl⟩ := hh; cases hc
        | some sub =>
          simp only [hbo] at hh
          split at hh <;> (try (cases hh; done))
          simp only [Option.bind_eq_some_iff, Option.some.injEq] at hh
          obtain ⟨x', _, y', _, z', _, rfl⟩ := hh
          exact absurd rfl hcl
      all_goals obtain ⟨f', hf, as, has, rfl⟩ := hh; cases hc
    | invoke r m => rw [hcal] at hh; cases hh
    | builtin b =>
      rw [hcal] at hh
      obtain ⟨cs, hex⟩ := exec_builtin ρ ho hcal
      cases b <;> simp only [reduceCtorEq] at hh
      case append =>
        cases hat : c.argTypes[0]? with
        | none => rw [hat] at hh; cases hh
        | some t =>
          rw [hat] at hh
          cases hu : P.underlying t with
          | none => simp only [hu] at hh; cases hh
          | some d =>
            simp only [hu] at hh
            cases d <;> simp only [reduceCtorEq] at hh
            rename_i e
            cases hat1 : (c.argTypes[1]?).bind (P.underlying ·) with
            | none => rw [hat1] at hh; cases hh
            | some d1 =>
              rw [hat1] at hh
              simp only [Option.bind_eq_some_iff] at hat1
              obtain ⟨xT, hxT, hxu⟩ := hat1
              have plain : isIntT d1 = false → (∃ i, P.info? e = some i ∧ ∃ z, i.zero = some z ∧ ∃ u, okB (z.cells.size == i.size) = some u ∧ ∃ x0, c.args[0]? = some x0 ∧ ∃ x', oOf g.f x0 = some x' ∧ ∃ x1, c.args[1]? = some x1 ∧ ∃ x1', oOf g.f x1 = some x1' ∧ A.append i.size i.bytes x' x1' = a) →
                  GivesH P g μ h0 w (execOp ρ o) v h1 := by
                rintro hd1 ⟨i, hi, z, hz, u, hb, x0, hx0, x', hx, x1, hx1, x1', hx1', rfl⟩
                have := append_ok (P := P) (ty := o.type) hr (hO _ _ hx) (hO _ _ hx1') hs hat hxT (args0 (ρ := ρ) hx0) (args1 (ρ := ρ) hx1) hu ⟨d1, hxu, hd1⟩ hi rfl rfl hz (by simpa using okB_true hb)
                rw [hex]; exact this
              cases d1 <;> simp only [Option.bind_eq_some_iff, Option.some.injEq] at hh
              case int k =>
                obtain ⟨i, hi, z, hz, u, hb, x0, hx0, x', hx, x1, hx1, x1', hx1', rfl⟩ := hh
                have := appendZ_ok (P := P) (Q := Q) (ty := o.type) hr (hO _ _ hx) (hO _ _ hx1') hs hat hxT (args0 (ρ := ρ) hx0) (args1 (ρ := ρ) hx1) hu hxu hi rfl hz (by simpa using okB_true hb)
                rw [hex]; exact this
              all_goals exact plain rfl hh
      case copy =>
        cases hat : c.argTypes[0]? with
        | none => rw [hat] at hh; cases hh
        | some t =>
          rw [hat] at hh
          cases hu : P.underlying t with
          | none => simp only [hu] at hh; cases hh
          | some d =>
            simp only [hu] at hh
            cases d <;> simp only [reduceCtorEq, Option.bind_eq_some_iff, Option.some.injEq] at hh <;> (try (exact hh.elim))
            obtain ⟨s, hsz, x0, hx0, x', hx, x1, hx1, x1', hx1', rfl⟩ := hh
            have := copy_ok (P := P) (Q := Q) (ty := o.type) hr (hO _ _ hx) (hO _ _ hx1') hs hat (args0 (ρ := ρ) hx0) (args1 (ρ := ρ) hx1) hu hsz
            rw [hex]; exact this
      case len =>
        split at hh
        · cases hh
        · split at hh <;> (try (cases hh; done))
          · simp only [Option.bind_eq_some_iff, Option.some.injEq] at hh
            obtain ⟨x0, _, x', _, rfl⟩ := hh; exact absurd rfl hcl
          · simp only [Option.bind_eq_some_iff, Option.some.injEq] at hh
            obtain ⟨x0, _, x', _, rfl⟩ := hh; exact absurd rfl hcl
          · split at hh
            · cases hh
            · cases hh; exact absurd rfl hcl
          · split at hh <;> (try (cases hh; done))
            split at hh
            · cases hh
            · cases hh; exact absurd rfl hcl
      case cap =>
        split at hh
        · cases hh
        · split at hh <;> (try (cases hh; done))
          simp only [Option.bind_eq_some_iff, Option.some.injEq] at hh
          obtain ⟨x0, _, x', _, rfl⟩ := hh; exact absurd rfl hcl
      case min => simp only [Option.bind_eq_some_iff, Option.some.injEq] at hh; obtain ⟨as, _, rfl⟩ := hh; exact absurd rfl hcl
      case max => simp only [Option.bind_eq_some_iff, Option.some.injEq] at hh; obtain ⟨as, _, rfl⟩ := hh; exact absurd rfl hcl
  case build t ps =>
    obtain ⟨z, _, hh⟩ := hh
    split at hh <;> (try (cases hh; done))
    · simp only [Option.bind_eq_some_iff, Option.some.injEq] at hh
      obtain ⟨pl, _, qs, _, rfl⟩ := hh; exact absurd rfl hcl
    · simp only [Option.bind_eq_some_iff, Option.some.injEq] at hh
      obtain ⟨s, _, qs, _, rfl⟩ := hh; exact absurd rfl hcl
  case makeFunc fn first caps =>
    cases fn <;> simp only [reduceCtorEq, Option.bind_eq_bind, Option.bind_eq_some_iff, Option.pure_def, Option.some.injEq] at hh
    obtain ⟨f', _, c', _, rfl⟩ := hh; exact absurd rfl hcl
  case fieldAddr s x f =>
    split at hh <;> (try (cases hh; done))
    simp only [Option.bind_eq_some_iff, Option.some.injEq] at hh
    obtain ⟨fd, _, n, _, hh⟩ := hh
    split at hh
    · cases hh
    · simp only [Option.bind_eq_some_iff, Option.some.injEq] at hh
      obtain ⟨x', _, rfl⟩ := hh; exact absurd rfl hcl
  case field s x f =>
    split at hh <;> (try (cases hh; done))
    simp only [Option.bind_eq_some_iff, Option.some.injEq] at hh
    obtain ⟨fd, _, n, _, x', _, rfl⟩ := hh; exact absurd rfl hcl
  case indexAddr t x i =>
    split at hh <;> (try (cases hh; done))
    · simp only [Option.bind_eq_some_iff, Option.some.injEq] at hh
      obtain ⟨n, _, x', _, i', _, rfl⟩ := hh; exact absurd rfl hcl
    · simp only [Option.bind_eq_some_iff, Option.some.injEq] at hh
      obtain ⟨n, _, x', _, i', _, rfl⟩ := hh; exact absurd rfl hcl
  case sliceToArrayPointer t x =>
    split at hh <;> (try (cases hh; done))
    simp only [Option.bind_eq_some_iff, Option.some.injEq] at hh
    obtain ⟨x', _, rfl⟩ := hh; exact absurd rfl hcl
  case index t x i =>
    split at hh <;> (try (cases hh; done))
    · simp only [Option.bind_eq_some_iff, Option.some.injEq] at hh
      obtain ⟨n, _, ag, _, x', _, i', _, rfl⟩ := hh; exact absurd rfl hcl
    · simp only [Option.bind_eq_some_iff, Option.some.injEq] at hh
      obtain ⟨x', _, i', _, rfl⟩ := hh; exact absurd rfl hcl
  all_goals first
    | (cases hh; done)
    | (obtain ⟨y, hy, rfl⟩ := hh; exact absurd rfl hcl)
    | (obtain ⟨y, hy, z, hz, rfl⟩ := hh; exact absurd rfl hcl)
    | (obtain ⟨y, hy, z, hz, u, hu, rfl⟩ := hh; exact absurd rfl hcl)
end Go.Eng

/-
  ENGINE, part 17h: operations that lay a row. Own work.
-/
namespace Go.Eng
open Go

variable {P : Program} {g : Gn} {μ : Mu} {w : World}

theorem row_ok {h0 h1 : H} {T : Tr V} {ρ : Operand → Value} (hO : OR g μ (szOf w) T ρ) {o : Oper} {a : A} (h : trA P g.f o = some a) (hc : clsA a = 2) {Q : Orc} {v : V} (hs : Eng.step a Q T h0 = some (v, h1)) :
    GivesR P g μ h0 w (execOp ρ o) v h1 := by
  cases ho : o.op
  all_goals have hh := h; unfold trA at hh; rw [ho] at hh
  all_goals try (simp only [Option.bind_eq_bind, Option.bind_eq_some_iff, Option.pure_def, Option.some.injEq] at hh)
  case alloc e =>
    obtain ⟨z, hz, rfl⟩ := hh
    cases hs
    have := alloc_ok (g := g) (μ := μ) (w := w) (h := h0) hz
    simpa only [execOp, ho] using this
  case box e x =>
    obtain ⟨y, hy, rfl⟩ := hh
    cases hs
    have := box_ok (P := P) (h := h0) (e := e) (hO _ _ hy)
    simpa only [execOp, ho] using this
  case buildSlice t n ps =>
    cases hu : P.underlying t with
    | none => rw [hu] at hh; cases hh
    | some d =>
      rw [hu] at hh
      cases d <;> simp only [reduceCtorEq, Option.bind_eq_some_iff, Option.some.injEq] at hh <;> (try (exact hh.elim))
      obtain ⟨s, hsz, z, hz, qs, hq, rfl⟩ := hh
      have := buildS_ok (Q := Q) hO hu hsz hz hq hs
      have e1 : (ps.toList.map fun (i, x) => (i, ρ x)).toArray = ps.map fun (i, x) => (i, ρ x) := by
        rw [← Array.toList_inj]; simp
      rw [e1] at this
      simpa only [execOp, ho] using this
  case convert s d x =>
    cases hus : P.underlying s with
    | none => rw [hus] at hh; cases hh
    | some us =>
      cases hud : P.underlying d with
      | none => rw [hus, hud] at hh; cases us <;> cases hh
      | some ud =>
        rw [hus, hud] at hh
        cases us <;> cases ud <;> simp only [reduceCtorEq, Option.bind_eq_some_iff, Option.some.injEq] at hh <;> (try (exact hh.elim))
        case string.slice e =>
          split at hh <;> simp only [reduceCtorEq, Option.bind_eq_some_iff, Option.some.injEq] at hh
          rename_i hue
          obtain ⟨x', hx, rfl⟩ := hh
          have := s2b_ok (Q := Q) (hO _ _ hx) hs hus hue hud
          simpa only [execOp, ho] using this
        all_goals
          exfalso
          (repeat' split at hh) <;> (try simp only [reduceCtorEq, Option.bind_eq_some_iff, Option.some.injEq] at hh) <;> first | exact hh.elim | (cases hh; done) | (obtain ⟨x', hx, rfl⟩ := hh; cases hc)
  case makeSlice t x y =>
    cases hu : P.underlying t with
    | none => rw [hu] at hh; cases hh
    | some d =>
      rw [hu] at hh
      cases d <;> simp only [reduceCtorEq, Option.bind_eq_some_iff, Option.some.injEq] at hh <;> (try (exact hh.elim))
      obtain ⟨i, hi, z, hz, _, hb, x', hx, y', hy, rfl⟩ := hh
      have := mkslice_ok (Q := Q) (hO _ _ hx) (hO _ _ hy) hs hu hi hz (by simpa using okB_true hb)
      simpa only [execOp, ho] using this
  case makeFunc fn first caps =>
    exfalso
    cases fn <;> (try (cases hh; done)) <;> (try simp only [Option.bind_eq_bind, Option.bind_eq_some_iff, Option.pure_def, Option.some.injEq] at hh)
    obtain ⟨f', _, c', _, rfl⟩ := hh
    cases hc
  all_goals
    exfalso
    cases a <;> (try (cases hc; done))
  all_goals try (simp only [clsA] at hc; split at hc <;> cases hc; done)
  all_goals try (cases h; done)
  all_goals try (cases hh; done)
  all_goals (clear h hs; (repeat' split at hh) <;> simp [Option.bind_eq_some_iff] at hh)
end Go.Eng
