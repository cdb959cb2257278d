/- The evaluator by which closed calls are run, part E: own work.
-/
import Derived.Test.YtfopajklnakmpaaEngD
import Derived.RangeFuncIn
set_option linter.unusedVariables false
set_option linter.unusedSimpArgs false
set_option linter.unusedSectionVars false
/-
  ENGINE, part 17: what an evaluation says of the machine: operations in order. Own work.
-/
namespace Go.Eng
open Go

variable {P : Program} {g : Gn}

theorem HR.delW {μ : Mu} {h : H} {w : World} (hr : HR P g μ h w) (i : Nat) (old : Blk) (b base : Nat) (hg : h.get i = some old) (hold : old.own = true) (hm : μ i = some (b, base)) (w1 : World) (hsize : w1.heap.size = w.heap.size)
    (hother : ∀ k, k ≠ b → w1.heap[k]? = w.heap[k]?) (hsz : Sz.le (szOf w) (szOf w1)) (hio : w1.os = w.os ∧ w1.output = w.output := by exact ⟨rfl, rfl⟩) : HR P g μ (h.del i) w1 ∧ Ext μ h w μ (h.del i) w1 := by
  refine ⟨⟨hr.fresh, ?_, ?_⟩, ⟨Mu.le_refl _, by omega, hsz, ?_, ?_, Nat.le_refl _, hio, fun _ _ => rfl⟩⟩
  · intro j bj hj
    rw [H.get_del] at hj
    split at hj
    · cases hj
    · rename_i e
      obtain ⟨a, x, hmj, hbr⟩ := hr.blk j bj hj
      refine ⟨a, x, hmj, hbr.mono (Mu.le_refl _) hsz (hother a ?_)⟩
      rintro rfl
      exact e (hr.inj i j old bj a base x hg hj hold hm hmj)
  · intro j k bj bk a x y hj hk
    rw [H.get_del] at hj hk
    split at hj
    · cases hj
    · split at hk
      · cases hk
      · exact hr.inj j k bj bk a x y hj hk
  · intro k hk hn
    refine hother k ?_
    rintro rfl
    exact hn i old base hg hold hm
  · intro j bj a x hj hmj _
    rw [H.get_del] at hj
    split at hj
    · cases hj
    · exact ⟨j, bj, x, hj, id, hmj⟩

/-! ### Temporaries -/
theorem evO_set (T : Tr V) (d : Nat) (v : V) (i : Nat) : evO (T.set d (some v)) (.t i) = if d = i then v else evO T (.t i) := by
  simp only [evO, Tr.get_set]
  by_cases h : d = i
  · simp [h]
  · simp [h]
theorem TR.set {μ : Mu} {sz : Sz} {T : Tr V} {tmps : Array Value} (h : TR g μ sz T tmps) {d : Nat} (hd : d < tmps.size) {v : V} {x : Value} (hv : VR g μ sz v x) : TR g μ sz (T.set d (some v)) (tmps.setIfInBounds d x) := by
  intro i
  rw [evO_set]
  by_cases hi : d = i
  · subst hi
    rw [if_pos rfl]
    have : (tmps.setIfInBounds d x).getD d undef = x := by simp [Array.getD, hd]
    rw [this]; exact hv
  · rw [if_neg hi]
    have : (tmps.setIfInBounds d x).getD i undef = tmps.getD i undef := by
      simp only [Array.getD_eq_getD_getElem?, Array.getElem?_setIfInBounds_ne hi]
    rw [this]; exact h i
theorem TR.put {μ : Mu} {sz : Sz} {T : Tr V} {a : Act} (h : TR g μ sz T a.tmps) {d : Option Nat} (hd : dstOk a.tmps.size d = true) {v : V} {x : Value} (hv : VR g μ sz v x) : TR g μ sz (putT T d v) (a.put d x).tmps := by
  cases d with
  | none => exact h
  | some d => exact h.set (by simpa [dstOk] using hd) hv

theorem act_OR {μ : Mu} {sz : Sz} {T : Tr V} {a : Act} (h : TR g μ sz T a.tmps) : OR g μ sz T a.eval := OR.of_TR h _ (fun _ => rfl) (fun _ => rfl) (fun _ => rfl)

/-- marks of a range over a function -/
def DR (μ : Mu) : List Nat → List Deferred → Prop
  | [], [] => True
  | d :: D, x :: X => (∃ b, μ d = some (b, 0) ∧ x = { target := .collected b, args := #[] }) ∧ DR μ D X
  | _, _ => False
theorem DR.mono {μ μ' : Mu} (hμ : Mu.le μ μ') : ∀ {D : List Nat} {X : List Deferred}, DR μ D X → DR μ' D X
  | [], [], _ => trivial
  | _ :: _, _ :: _, ⟨⟨b, h1, h2⟩, h3⟩ => ⟨⟨b, hμ _ _ h1, h2⟩, DR.mono hμ h3⟩
  | [], _ :: _, h => h.elim
  | _ :: _, [], h => h.elim

/-- the state of an activation -/
structure SR (P : Program) (g : Gn) (N : Nat) (μ : Mu) (st : St) (a : Act) (w : World) : Prop where
  heap : HR P g μ st.h w
  tmps : TR g μ (szOf w) st.T a.tmps
  size : a.tmps.size = N
  defers : DR μ st.D a.defers

/-- what a call comes to -/
def CallOk (P : Program) (g : Gn) : Tgt → List V → H → V → H → Prop
  | .fn f, args, h, v, h1 => ∀ (μ : Mu) (w : World), HR P g μ h w → ∀ xs : Array Value, VRs g μ (szOf w) args xs.toList → ∀ f', g.f f' = f →
      (callFunc f' xs).run P w = .ok (.enter f' xs) w ∧ ∀ cs : List Frame, ∃ fr μ1 w1 x, Steps P (lone (Frame.enter P f' xs .normal) cs w) (lone fr cs w1) ∧ fr.fn = f' ∧ fr.leaving P w1 (.returned x) ∧
        HR P g μ1 h1 w1 ∧ Ext μ h w μ1 h1 w1 ∧ VR g μ1 (szOf w1) v x
  | .yld l, args, h, v, h1 => ∀ (μ : Mu) (w : World), HR P g μ h w → ∀ xs : Array Value, VRs g μ (szOf w) args xs.toList → ∀ b, μ l = some (b, 0) →
      ∃ f tmps asg body, (Instr.yield b xs).run P w = .ok (.round b f tmps asg body) w ∧ ∀ (c : Frame) (cs : List Frame), ∃ μ1 w1 x, Steps P (lone (Frame.round b f tmps asg body .normal) (c :: cs) w) (lone (c.finish x) cs w1) ∧
        HR P g μ1 h1 w1 ∧ Ext μ h w μ1 h1 w1 ∧ VR g μ1 (szOf w1) v x
def QOk (P : Program) (g : Gn) (Q : Orc) : Prop := ∀ t args h v h1, Q t args h = some (v, h1) → CallOk P g t args h v h1

theorem trA_no_defer {o : Oper} {a : A} (h : trA P g.f o = some a) : ∀ c, o.op ≠ .defer c := by
  intro c hc
  unfold trA at h
  rw [hc] at h
  cases h
/-- only calls of functions become calls -/
theorem trA_call {o : Oper} {a : A} (h : trA P g.f o = some a) (hc : isCall a = true) : ∃ c f, o.op = .call c ∧ c.callee = .value f ∧ ∃ as, c.args.toList.mapM (oOf g.f) = some as ∧
    ((∃ n, f = .func n ∧ a = .call (g.f n) as) ∨ (∃ f', oOf g.f f = some f' ∧ a = .callv f' as)) := by
  cases ho : o.op
  case call c =>
    unfold trA at h
    rw [ho] at h
    dsimp only at h
    refine ⟨c, ?_⟩
    cases hcal : c.callee with
    | invoke r m => rw [hcal] at h; cases h
    | value f =>
      refine ⟨f, rfl, rfl, ?_⟩
      rw [hcal] at h
      cases f <;> simp only [Option.bind_eq_bind, Option.bind_eq_some_iff, Option.pure_def, Option.some.injEq] at h
      case func n =>
        cases hbo : bitsOp P n with
        | none =>
          simp only [hbo, Option.bind_eq_some_iff, Option.some.injEq] at h
          obtain ⟨as, has, rfl⟩ := h; exact ⟨as, has, .inl ⟨n, rfl, rfl⟩⟩
        | some sub =>
          simp only [hbo] at h
          split at h <;> (try (cases h; done))
          simp only [Option.bind_eq_some_iff, Option.some.injEq] at h
          obtain ⟨x', _, y', _, z', _, rfl⟩ := h
          cases hc
      all_goals obtain ⟨f', hf, as, has, rfl⟩ := h; exact ⟨as, has, .inr ⟨f', hf, rfl⟩⟩
    | builtin b =>
      exfalso
      rw [hcal] at h
      cases a <;> (try (cases hc; done))
      all_goals
        cases b <;> simp only [reduceCtorEq] at h
        all_goals (repeat' split at h) <;> simp [Option.bind_eq_some_iff] at h
  case makeFunc fn first caps =>
    exfalso
    unfold trA at h
    rw [ho] at h
    cases fn <;> simp only [reduceCtorEq, Option.bind_eq_bind, Option.bind_eq_some_iff, Option.pure_def, Option.some.injEq] at h
    obtain ⟨f', _, c', _, rfl⟩ := h; cases hc
  all_goals
    exfalso
    unfold trA at h
    rw [ho] at h
    try dsimp only at h
    cases a <;> (try (cases hc; done))
  all_goals try (cases h; done)
  all_goals (repeat' split at h) <;> simp [Option.bind_eq_some_iff] at h

/-- one operation, carried out by the machine -/
theorem op_ok {Q : Orc} (hQ : QOk P g Q) {N : Nat} {μ : Mu} {T : Tr V} {D : List Nat} {h h1 : H} {a : Act} {w : World} (hs : SR P g N μ ⟨T, D, h⟩ a w) {o : Oper} {x : A} (ht : trA P g.f o = some x) {v : V} (he : Eng.step x Q T h = some (v, h1))
    {b : Frame} {ops : Array Oper} {i : Nat} {rest : List Nat} {k : List Item} {cs : List Frame} (ho : ops[i]? = some o) (hw : Region.wanted o (yielded ops a.tmps) = true) (hd : dstOk N o.dst = true) :
    ∃ μ1 w1 z, Steps P (lone (b.atR a (.inRegion ops (i :: rest) :: k)) cs w) (lone (b.atR (a.put o.dst z) (.inRegion ops rest :: k)) cs w1) ∧ HR P g μ1 h1 w1 ∧ Ext μ h w μ1 h1 w1 ∧ VR g μ1 (szOf w1) v z := by
  have hg := stepGR_op (P := P) (b := b) (k := k) (cs := cs) (w := w) (rest := rest) ho hw
  rw [Oper.semAt_eq _ _ _ (trA_no_defer ht)] at hg
  have hfin : ∀ z, (b.atR a (.inRegion ops (i :: rest) :: k)).finish z = b.atR (a.put o.dst z) (.inRegion ops rest :: k) := by
    intro z; rw [Frame.finish_atR, ho]; rfl
  have hO := act_OR (a := a) hs.tmps
  cases hc : isCall x with
  | false =>
    obtain ⟨r, w1, μ1, z, q1, q2, q3, q4, q5⟩ := heap_ok hs.heap hO ht hc he
    refine ⟨μ1, w1, z, .one (step_lone_go ?_), q3, q4, q5⟩
    rw [hg, ← hfin]
    rcases q2 with rfl | ⟨rfl, rfl⟩ <;> simp [stepG.apply, q1]
  | true =>
    -- a call of a function, whose number and arguments are known
    have enter : ∀ (f' : FuncId) (xs : Array Value) (f : Nat) (args : List V), (execOp a.eval o).run P w = (callFunc f' xs).run P w → g.f f' = f → VRs g μ (szOf w) args xs.toList → Q (.fn f) args h = some (v, h1) →
        ∃ μ1 w1 z, Steps P (lone (b.atR a (.inRegion ops (i :: rest) :: k)) cs w) (lone (b.atR (a.put o.dst z) (.inRegion ops rest :: k)) cs w1) ∧ HR P g μ1 h1 w1 ∧ Ext μ h w μ1 h1 w1 ∧ VR g μ1 (szOf w1) v z := by
      intro f' xs f args hex hf hxs hq
      obtain ⟨c1, c2⟩ := hQ _ _ _ _ _ hq μ w hs.heap xs hxs f' hf
      obtain ⟨fr, μ1, w1, z, r1, r2, r3, r4, r5, r6⟩ := c2 (b.atR a (.inRegion ops (i :: rest) :: k) :: cs)
      refine ⟨μ1, w1, z, ?_, r4, r5, r6⟩
      have henter : Go.step P (lone (b.atR a (.inRegion ops (i :: rest) :: k)) cs w) = .next (lone (Frame.enter P f' xs .normal) (b.atR a (.inRegion ops (i :: rest) :: k) :: cs) w) :=
        step_lone_go (by rw [hg]; simp [stepG.apply, hex, c1, Frame.atR])
      rw [← hfin]
      exact .head henter (r1.trans (.one (step_leave_returned r3)))
    obtain ⟨c, f, ho', hcal, as, has, hcase⟩ := trA_call ht hc
    have hargs : VRs g μ (szOf w) (evOs T as) (c.args.map a.eval).toList := by rw [Array.toList_map]; exact hO.list _ _ has
    have hres : ∀ fv : Value, a.eval f = fv → ∀ d, Deferred.ofValue fv (c.args.map a.eval) = pure d → (execOp a.eval o).run P w = (invoke d.target d.args).run P w := by
      intro fv hfv d hd
      simp only [execOp, ho', resolve, hcal, hfv, hd, pure_bind]
    rcases hcase with ⟨n, rfl, rfl⟩ | ⟨f', hf', rfl⟩
    · refine enter n (c.args.map a.eval) (g.f n) (evOs T as) ?_ rfl hargs he
      rw [hres (.func (.func n) #[] #[]) rfl { target := .fn (.func n) #[], args := #[] ++ c.args.map a.eval } rfl]
      simp [invoke]
    · have hv := hO _ _ hf'
      change callV Q (evOs T as) (evO T f') h = _ at he
      generalize evO T f' = u at hv he
      generalize hfv : a.eval f = fv at hv
      cases hv <;> (try (cases he; done))
      case fn fn0 f0 first caps first' caps' hg' hv1 hv2 =>
        refine enter f0 (first' ++ (c.args.map a.eval) ++ caps') fn0 (first ++ (evOs T as ++ caps)) ?_ hg' ?_ he
        · rw [hres _ hfv { target := .fn (.func f0) caps', args := first' ++ c.args.map a.eval } rfl]
          simp [invoke]
        · rw [Array.toList_append, Array.toList_append, List.append_assoc]
          exact hv1.append (hargs.append hv2)
      case yld l bl hl =>
        obtain ⟨f0, tmps, asg, body, c1, c2⟩ := hQ _ _ _ _ _ he μ w hs.heap (c.args.map a.eval) hargs bl hl
        obtain ⟨μ1, w1, z, r1, r4, r5, r6⟩ := c2 (b.atR a (.inRegion ops (i :: rest) :: k)) cs
        refine ⟨μ1, w1, z, ?_, r4, r5, r6⟩
        have hex : (execOp a.eval o).run P w = .ok (.round bl f0 tmps asg body) w := by
          rw [hres _ hfv { target := .fn (.yield bl) #[], args := #[] ++ c.args.map a.eval } rfl]
          simp only [invoke, Array.empty_append]
          exact c1
        have henter : Go.step P (lone (b.atR a (.inRegion ops (i :: rest) :: k)) cs w) = .next (lone (Frame.round bl f0 tmps asg body .normal) (b.atR a (.inRegion ops (i :: rest) :: k) :: cs) w) :=
          step_lone_go (by rw [hg]; simp [stepG.apply, hex, Frame.atR])
        rw [← hfin]
        exact .head henter r1
end Go.Eng

/-
  ENGINE, part 18: what an evaluation says of the machine: code. Own work.
-/
namespace Go.Eng
open Go

variable {P : Program} {g : Gn}

theorem wanted_ok {μ : Mu} {sz : Sz} {T : Tr V} {a : Act} (hT : TR g μ sz T a.tmps) {ops : Array Oper} {o : Oper} {d : Nat} {j : Nat} {w' : Bool} (hg : o.guard = some (j, w')) (hd : (ops[j]?).bind (·.dst) = some d) (hlt : d < a.tmps.size) :
    Region.wanted o (yielded ops a.tmps) = wanted T (some (d, w')) := by
  have hv := hT d
  have hget : a.tmps[d]? = some (a.tmps.getD d undef) := by
    rw [Array.getD_eq_getD_getElem?, Array.getElem?_eq_getElem hlt]; rfl
  simp only [Region.wanted, hg, yielded, hd, Option.bind_some, hget, wanted, isTrueAt]
  simp only [evO] at hv
  generalize a.tmps.getD d undef = x at hv
  cases ht : T.get d with
  | none =>
    rw [ht] at hv
    simp only [undefV] at hv
    cases hv
    cases w' <;> rfl
  | some u =>
    rw [ht] at hv
    simp only at hv
    cases hv <;> (try rfl)
    rename_i bb
    cases bb <;> cases w' <;> rfl

theorem trOp_dst (ops : Array Oper) (o : Oper) : (trOp P g.f ops o).dst = o.dst ∧ ((trOp P g.f ops o).a ≠ .bad "" → trA P g.f o = some (trOp P g.f ops o).a) ∧
    ((o.guard = none ∧ (trOp P g.f ops o).guard = none) ∨ (∃ j w' d, o.guard = some (j, w') ∧ (ops[j]?).bind (·.dst) = some d ∧ (trOp P g.f ops o).guard = some (d, w')) ∨ ((trOp P g.f ops o).a = .bad "" ∧ (trOp P g.f ops o).guard = none)) := by
  have hgetD : ((trA P g.f o).getD (.bad "")) ≠ .bad "" → trA P g.f o = some ((trA P g.f o).getD (.bad "")) := by
    intro h
    cases ha : trA P g.f o with
    | none => rw [ha] at h; exact absurd rfl h
    | some a => rfl
  unfold trOp
  cases hg : o.guard with
  | none => exact ⟨rfl, hgetD, .inl ⟨rfl, rfl⟩⟩
  | some p =>
    obtain ⟨j, w'⟩ := p
    simp only
    cases hd : (ops[j]?).bind (·.dst) with
    | none => exact ⟨rfl, fun h => absurd rfl h, .inr (.inr ⟨rfl, rfl⟩)⟩
    | some d => exact ⟨rfl, hgetD, .inr (.inl ⟨j, w', d, rfl, hd, rfl⟩)⟩

@[simp] theorem forceV_eq {α : Type} (v : V) (k : V → α) : forceV v k = k v := by
  have hf : ∀ (n : Nat) (k : Nat → α), force n k = k n := fun n k => by cases n <;> rfl
  cases v with
  | bool b => cases b <;> rfl
  | int kd i => cases i <;> simp [forceV, forceI, hf]
  | _ => rfl

theorem dst_lt {N : Nat} {ops : Array Oper} (hN : ∀ o ∈ ops.toList, dstOk N o.dst = true) {j d : Nat} (h : (ops[j]?).bind (·.dst) = some d) : d < N := by
  simp only [Option.bind_eq_some_iff] at h
  obtain ⟨o, ho, hd⟩ := h
  have := hN o (by rw [← Array.getElem?_toList] at ho; exact List.mem_of_getElem? ho)
  rw [hd] at this
  simpa [dstOk] using this

/-- one step of an evaluation in order -/
theorem op1_ok {Q : Orc} (hQ : QOk P g Q) {N : Nat} {ops : Array Oper} (hN : ∀ o ∈ ops.toList, dstOk N o.dst = true) {μ : Mu} {st st1 : St} {a : Act} {w : World} (hs : SR P g N μ st a w) {o : Oper} {i : Nat} (ho : ops[i]? = some o)
    (he : (match wanted st.T (trOp P g.f ops o).guard with
      | true => (match Eng.step (trOp P g.f ops o).a Q st.T st.h with | some (v, h) => some (⟨putT st.T (trOp P g.f ops o).dst v, st.D, h⟩ : St) | none => none)
      | false => some ⟨putT st.T (trOp P g.f ops o).dst undefV, st.D, st.h⟩) = some st1)
    {b : Frame} {rest : List Nat} {k : List Item} {cs : List Frame} :
    ∃ μ1 a1 w1, Steps P (lone (b.atR a (.inRegion ops (i :: rest) :: k)) cs w) (lone (b.atR a1 (.inRegion ops rest :: k)) cs w1) ∧ SR P g N μ1 st1 a1 w1 ∧ Ext μ st.h w μ1 st1.h w1 := by
  obtain ⟨hdst, ht0, hguard⟩ := trOp_dst (P := P) (g := g) ops o
  have hod : dstOk N o.dst = true := hN o (by rw [← Array.getElem?_toList] at ho; exact List.mem_of_getElem? ho)
  have hw : (Region.wanted o (yielded ops a.tmps) = wanted st.T (trOp P g.f ops o).guard) ∨ ((trOp P g.f ops o).a = .bad "" ∧ (trOp P g.f ops o).guard = none) := by
    rcases hguard with ⟨h1, h2⟩ | ⟨j, w', d, h1, h2, h3⟩ | h
    · left; rw [h2]; simp [Region.wanted, h1, wanted]
    · left; rw [h3]; exact wanted_ok hs.tmps h1 h2 (by rw [hs.size]; exact dst_lt hN h2)
    · exact .inr h
  cases hwt : wanted st.T (trOp P g.f ops o).guard with
  | true =>
    rw [hwt] at he
    simp only at he
    cases hst : Eng.step (trOp P g.f ops o).a Q st.T st.h with
    | none => rw [hst] at he; cases he
    | some p =>
      obtain ⟨v, h1⟩ := p
      rw [hst] at he
      cases he
      have hbad : (trOp P g.f ops o).a ≠ .bad "" := by intro hb; rw [hb] at hst; cases hst
      have ht := ht0 hbad
      have hw : Region.wanted o (yielded ops a.tmps) = true := by
        rcases hw with hw | ⟨hb, _⟩
        · rw [hw, hwt]
        · exact absurd hb hbad
      obtain ⟨μ1, w1, z, r1, r2, r3, r4⟩ := op_ok (b := b) (rest := rest) (k := k) (cs := cs) hQ hs ht hst ho hw hod
      refine ⟨μ1, _, w1, r1, ⟨r2, ?_, ?_, ?_⟩, r3⟩
      · rw [hdst]; exact (hs.tmps.mono r3.mu r3.sz).put (by rw [hs.size]; exact hod) r4
      · have := hs.size
        cases o.dst <;> simp [Act.put, this]
      · have : (a.put o.dst z).defers = a.defers := by cases o.dst <;> rfl
        rw [this]; exact hs.defers.mono r3.mu
  | false =>
    rw [hwt] at he
    have hw : Region.wanted o (yielded ops a.tmps) = false := by
      rcases hw with hw | ⟨_, hb⟩
      · rw [hw, hwt]
      · rw [hb] at hwt; cases hwt
    cases he
    refine ⟨μ, a.put o.dst undef, w, .one ?_, ⟨hs.heap, ?_, ?_, ?_⟩, Ext.refl _ _ _⟩
    · have := stepR_op_skip (P := P) (b := b) (a := a) (k := k) (cs := cs) (w := w) (ops := ops) (i := i) (rest := rest) (by rw [ho]; simpa using hw)
      rw [this, ho]; rfl
    · rw [hdst]; exact hs.tmps.put (by rw [hs.size]; exact hod) (.tup _ _ .nil)
    · have := hs.size
      cases o.dst <;> simp [Act.put, this]
    · have : (a.put o.dst undef).defers = a.defers := by cases o.dst <;> rfl
      rw [this]; exact hs.defers

theorem bad_none {Q : Orc} {T : Tr V} {h : H} {s : String} : Eng.step (.bad s) Q T h = none := rfl

theorem evOps_cons (Q : Orc) (o : Op) (l : List Op) (st : St) : evOps Q (o :: l) st = evOp1 Q o (evOps Q l) st := rfl
theorem evOps_nil (Q : Orc) (st : St) : evOps Q [] st = some st := rfl

theorem ops_ok {Q : Orc} (hQ : QOk P g Q) {N : Nat} {ops : Array Oper} (hN : ∀ o ∈ ops.toList, dstOk N o.dst = true) {b : Frame} {k : List Item} {cs : List Frame} : ∀ (n i : Nat), i + n = ops.size → ∀ (μ : Mu) (st st1 : St) (a : Act) (w : World), SR P g N μ st a w →
    evOps Q ((ops.toList.drop i).map (trOp P g.f ops)) st = some st1 →
    ∃ μ1 a1 w1, Steps P (lone (b.atR a (.inRegion ops (List.range' i n) :: k)) cs w) (lone (b.atR a1 k) cs w1) ∧ SR P g N μ1 st1 a1 w1 ∧ Ext μ st.h w μ1 st1.h w1 := by
  intro n
  induction n with
  | zero =>
    intro i hi μ st st1 a w hs he
    have : ops.toList.drop i = [] := List.drop_eq_nil_of_le (by simp; omega)
    rw [this] at he
    cases he
    exact ⟨μ, a, w, .one stepR_region_end, hs, Ext.refl _ _ _⟩
  | succ n ih =>
    intro i hi μ st st1 a w hs he
    have hlt : i < ops.toList.length := by simp; omega
    rw [List.drop_eq_getElem_cons hlt, List.map_cons, evOps_cons] at he
    have ho : ops[i]? = some ops.toList[i] := by rw [← Array.getElem?_toList]; exact List.getElem?_eq_getElem hlt
    generalize ops.toList[i] = o at ho he
    unfold evOp1 at he
    simp only [forceV_eq] at he
    rw [List.range'_succ]
    have go : ∀ st2, (match wanted st.T (trOp P g.f ops o).guard with
      | true => (match Eng.step (trOp P g.f ops o).a Q st.T st.h with | some (v, h) => some (⟨putT st.T (trOp P g.f ops o).dst v, st.D, h⟩ : St) | none => none)
      | false => some ⟨putT st.T (trOp P g.f ops o).dst undefV, st.D, st.h⟩) = some st2 → evOps Q ((ops.toList.drop (i + 1)).map (trOp P g.f ops)) st2 = some st1 →
      ∃ μ1 a1 w1, Steps P (lone (b.atR a (.inRegion ops (i :: List.range' (i + 1) n) :: k)) cs w) (lone (b.atR a1 k) cs w1) ∧ SR P g N μ1 st1 a1 w1 ∧ Ext μ st.h w μ1 st1.h w1 := by
      intro st2 h1 h2
      obtain ⟨μ1, a1, w1, r1, r2, r3⟩ := op1_ok (b := b) (rest := List.range' (i + 1) n) (k := k) (cs := cs) hQ hN hs ho h1
      obtain ⟨μ2, a2, w2, s1, s2, s3⟩ := ih (i + 1) (by omega) μ1 st2 st1 a1 w1 r2 h2
      exact ⟨μ2, a2, w2, r1.trans s1, s2, r3.trans s3⟩
    cases hwt : wanted st.T (trOp P g.f ops o).guard with
    | true =>
      rw [hwt] at he go
      simp only at he go
      cases hst : Eng.step (trOp P g.f ops o).a Q st.T st.h with
      | none => rw [hst] at he; cases he
      | some p => rw [hst] at he go; exact go _ rfl he
    | false =>
      rw [hwt] at he go
      exact go _ rfl he
end Go.Eng

/-
  ENGINE, part 17a: what an operation's evaluation depends on. Own work.
-/
namespace Go.Eng
open Go

section
variable {T T' : Tr V}
theorem evO_congr {o : O} (h : ∀ i ∈ namesO o, T.get i = T'.get i) : evO T o = evO T' o := by
  cases o <;> simp_all [namesO, evO]
theorem evM_congr {o : Option O} (h : ∀ i ∈ namesM o, T.get i = T'.get i) : evM T o = evM T' o := by
  cases o with
  | none => rfl
  | some o => simp only [evM]; rw [evO_congr h]
theorem evP_congr {l : List (Nat × Nat × O)} (h : ∀ i ∈ namesP l, T.get i = T'.get i) : evP T l = evP T' l := by
  induction l with
  | nil => rfl
  | cons x r ih =>
    obtain ⟨a, b, o⟩ := x
    simp only [namesP, List.mem_append] at h
    simp only [evP]
    rw [evO_congr (fun i hi => h i (.inl hi)), ih (fun i hi => h i (.inr hi))]
theorem evOs_congr {l : List O} (h : ∀ i ∈ namesOs l, T.get i = T'.get i) : evOs T l = evOs T' l := by
  induction l with
  | nil => rfl
  | cons o r ih =>
    simp only [namesOs, List.mem_append] at h
    have e : ∀ T : Tr V, evOs T (o :: r) = evO T o :: evOs T r := fun _ => rfl
    rw [e, e, evO_congr (fun i hi => h i (.inl hi)), ih (fun i hi => h i (.inr hi))]

theorem stepT (a : A) (Q : Orc) (h : H) (hn : ∀ i ∈ namesA a, T.get i = T'.get i) : Eng.step a Q T h = Eng.step a Q T' h := by
  cases a
  case mov x => show o_mov x Q T h = o_mov x Q T' h; unfold o_mov; rw [evO_congr hn]
  case box x => show o_box x Q T h = o_box x Q T' h; unfold o_box; rw [evO_congr hn]
  case load n x => show o_load n x Q T h = o_load n x Q T' h; unfold o_load; rw [evO_congr hn]
  case nilchk x => show o_nilchk x Q T h = o_nilchk x Q T' h; unfold o_nilchk; rw [evO_congr hn]
  case un op x => show o_un op x Q T h = o_un op x Q T' h; unfold o_un; rw [evO_congr hn]
  case conv k x => show o_conv k x Q T h = o_conv k x Q T' h; unfold o_conv; rw [evO_congr hn]
  case b2s x => show o_b2s x Q T h = o_b2s x Q T' h; unfold o_b2s; rw [evO_congr hn]
  case s2b x => show o_s2b x Q T h = o_s2b x Q T' h; unfold o_s2b; rw [evO_congr hn]
  case sid x => show o_sid x Q T h = o_sid x Q T' h; unfold o_sid; rw [evO_congr hn]
  case mark x => show o_mark x Q T h = o_mark x Q T' h; unfold o_mark; rw [evO_congr hn]
  case fieldAddr n x => show o_fieldAddr n x Q T h = o_fieldAddr n x Q T' h; unfold o_fieldAddr; rw [evO_congr hn]
  case fld n s x => show o_fld n s x Q T h = o_fld n s x Q T' h; unfold o_fld; rw [evO_congr hn]
  case ext x i => show o_ext x i Q T h = o_ext x i Q T' h; unfold o_ext; rw [evO_congr hn]
  case len s x => show o_len s x Q T h = o_len s x Q T' h; unfold o_len; rw [evO_congr hn]
  case cap x => show o_cap x Q T h = o_cap x Q T' h; unfold o_cap; rw [evO_congr hn]
  case build z ps => show o_build z ps Q T h = o_build z ps Q T' h; unfold o_build; rw [evP_congr hn]
  case buildS z l e ps => show o_buildS z l e ps Q T h = o_buildS z l e ps Q T' h; unfold o_buildS; rw [evP_congr hn]
  case call f as => show o_call f as Q T h = o_call f as Q T' h; unfold o_call; rw [evOs_congr hn]
  case minmax m as => show o_minmax m as Q T h = o_minmax m as Q T' h; unfold o_minmax; rw [evOs_congr hn]
  case s2a n x => show o_s2a n x Q T h = o_s2a n x Q T' h; unfold o_s2a; rw [evO_congr hn]
  case alloc z => rfl
  case lenA n => rfl
  case bad s => rfl
  all_goals simp only [namesA, List.mem_append] at hn
  case store n x y => show o_store n x y Q T h = o_store n x y Q T' h; unfold o_store; rw [evO_congr (fun i hi => hn i (.inl hi)), evO_congr (fun i hi => hn i (.inr hi))]
  case bin op e x y => show o_bin op e x y Q T h = o_bin op e x y Q T' h; unfold o_bin; rw [evO_congr (fun i hi => hn i (.inl hi)), evO_congr (fun i hi => hn i (.inr hi))]
  case mkslice z n x y => show o_mkslice z n x y Q T h = o_mkslice z n x y Q T' h; unfold o_mkslice; rw [evO_congr (fun i hi => hn i (.inl hi)), evO_congr (fun i hi => hn i (.inr hi))]
  case idxAddrA n e x y => show o_idxAddrA n e x y Q T h = o_idxAddrA n e x y Q T' h; unfold o_idxAddrA; rw [evO_congr (fun i hi => hn i (.inl hi)), evO_congr (fun i hi => hn i (.inr hi))]
  case idxAddrS e x y => show o_idxAddrS e x y Q T h = o_idxAddrS e x y Q T' h; unfold o_idxAddrS; rw [evO_congr (fun i hi => hn i (.inl hi)), evO_congr (fun i hi => hn i (.inr hi))]
  case idxStr x y => show o_idxStr x y Q T h = o_idxStr x y Q T' h; unfold o_idxStr; rw [evO_congr (fun i hi => hn i (.inl hi)), evO_congr (fun i hi => hn i (.inr hi))]
  case idxArr n e g x y => show o_idxArr n e g x y Q T h = o_idxArr n e g x y Q T' h; unfold o_idxArr; rw [evO_congr (fun i hi => hn i (.inl hi)), evO_congr (fun i hi => hn i (.inr hi))]
  case append e b x y => show o_append e b x y Q T h = o_append e b x y Q T' h; unfold o_append; rw [evO_congr (fun i hi => hn i (.inl hi)), evO_congr (fun i hi => hn i (.inr hi))]
  case appendZ z b x y => show o_appendZ z b x y Q T h = o_appendZ z b x y Q T' h; unfold o_appendZ; rw [evO_congr (fun i hi => hn i (.inl hi)), evO_congr (fun i hi => hn i (.inr hi))]
  case copy e x y => show o_copy e x y Q T h = o_copy e x y Q T' h; unfold o_copy; rw [evO_congr (fun i hi => hn i (.inl hi)), evO_congr (fun i hi => hn i (.inr hi))]
  case pick c x y =>
    show o_pick c x y Q T h = o_pick c x y Q T' h; unfold o_pick
    rw [evO_congr (fun i hi => hn i (.inl hi)), evO_congr (fun i hi => hn i (.inr (.inl hi))), evO_congr (fun i hi => hn i (.inr (.inr hi)))]
  case bits c0 c x y =>
    show o_bits c0 c x y Q T h = o_bits c0 c x y Q T' h; unfold o_bits
    rw [evO_congr (fun i hi => hn i (.inl hi)), evO_congr (fun i hi => hn i (.inr (.inl hi))), evO_congr (fun i hi => hn i (.inr (.inr hi)))]
  case mkfn f x y => show o_mkfn f x y Q T h = o_mkfn f x y Q T' h; unfold o_mkfn; rw [evOs_congr (fun i hi => hn i (.inl hi)), evOs_congr (fun i hi => hn i (.inr hi))]
  case callv x y => show o_callv x y Q T h = o_callv x y Q T' h; unfold o_callv; rw [evO_congr (fun i hi => hn i (.inl hi)), evOs_congr (fun i hi => hn i (.inr hi))]
  case slcStr x lo hi =>
    show o_slcStr x lo hi Q T h = o_slcStr x lo hi Q T' h; unfold o_slcStr
    rw [evO_congr (fun i hi => hn i (.inl hi)), evM_congr (fun i hi => hn i (.inr (.inl hi))), evM_congr (fun i hi => hn i (.inr (.inr hi)))]
  case slcS e x lo hi mx =>
    show o_slcS e x lo hi mx Q T h = o_slcS e x lo hi mx Q T' h; unfold o_slcS
    rw [evO_congr (fun i hi => hn i (.inl hi)), evM_congr (fun i hi => hn i (.inr (.inl hi))), evM_congr (fun i hi => hn i (.inr (.inr (.inl hi)))), evM_congr (fun i hi => hn i (.inr (.inr (.inr hi))))]
  case slcA n e x lo hi mx =>
    show o_slcA n e x lo hi mx Q T h = o_slcA n e x lo hi mx Q T' h; unfold o_slcA
    rw [evO_congr (fun i hi => hn i (.inl hi)), evM_congr (fun i hi => hn i (.inr (.inl hi))), evM_congr (fun i hi => hn i (.inr (.inr (.inl hi))))]
end


theorem same_some1 {h h1 : H} {o : Option V} {v : V} (e : same h o = some (v, h1)) : o = some v ∧ h1 = h := by
  cases o with
  | none => cases e
  | some x => cases e; exact ⟨rfl, rfl⟩

theorem binV_heap {op : BinOp} {e : EqK} {h h2 : H} {x y : V} (hp : e ≠ .ref .p) : binV op e h2 x y = binV op e h x y := by
  have key : ∀ x, eqlV e h2 x y = eqlV e h x y := by
    intro x
    cases e <;> try rfl
    rename_i k
    cases k <;> first | rfl | exact absurd rfl hp
  have key2 : ∀ x, binE op e h2 x y = binE op e h x y := by intro x; unfold binE; rw [key]
  unfold binV
  cases x <;> first | rfl | exact key2 _

/-- an operation of class 0 neither reads nor turns the heap -/
theorem step0 {a : A} (hc : clsA a = 0) {Q : Orc} {T : Tr V} {h h1 : H} {v : V} (he : Eng.step a Q T h = some (v, h1)) : h1 = h ∧ ∀ h2, Eng.step a Q T h2 = some (v, h2) := by
  cases a <;> (try (cases hc; done))
  case mov x => change o_mov x Q T h = _ at he; cases he; exact ⟨rfl, fun _ => rfl⟩
  case pick c x y =>
    change o_pick c x y Q T h = _ at he
    unfold o_pick at he
    refine ⟨?_, fun h2 => ?_⟩
    · split at he <;> cases he <;> rfl
    · change o_pick c x y Q T h2 = _; unfold o_pick
      split at he <;> cases he <;> simp_all
  case build z ps => change same h _ = _ at he; obtain ⟨h1, rfl⟩ := same_some1 he; exact ⟨rfl, fun h2 => by change same h2 _ = _; rw [h1]; rfl⟩
  case nilchk x => change same h _ = _ at he; obtain ⟨h1, rfl⟩ := same_some1 he; exact ⟨rfl, fun h2 => by change same h2 _ = _; rw [h1]; rfl⟩
  case bin op e x y =>
    change same h (binV op e h _ _) = _ at he
    obtain ⟨h1, rfl⟩ := same_some1 he
    refine ⟨rfl, fun h2 => ?_⟩
    change same h2 (binV op e h2 _ _) = _
    rw [binV_heap (h2 := h2) (by rintro rfl; cases hc), h1]; rfl
  case un op x => change same h _ = _ at he; obtain ⟨h1, rfl⟩ := same_some1 he; exact ⟨rfl, fun h2 => by change same h2 _ = _; rw [h1]; rfl⟩
  case conv k x => change same h _ = _ at he; obtain ⟨h1, rfl⟩ := same_some1 he; exact ⟨rfl, fun h2 => by change same h2 _ = _; rw [h1]; rfl⟩
  case sid x => change same h _ = _ at he; obtain ⟨h1, rfl⟩ := same_some1 he; exact ⟨rfl, fun h2 => by change same h2 _ = _; rw [h1]; rfl⟩
  case mkfn f x y => change some _ = _ at he; cases he; exact ⟨rfl, fun _ => rfl⟩
  case slcS e x lo hi mx => change same h _ = _ at he; obtain ⟨h1, rfl⟩ := same_some1 he; exact ⟨rfl, fun h2 => by change same h2 _ = _; rw [h1]; rfl⟩
  case fieldAddr n x => change same h _ = _ at he; obtain ⟨h1, rfl⟩ := same_some1 he; exact ⟨rfl, fun h2 => by change same h2 _ = _; rw [h1]; rfl⟩
  case len s x => change same h _ = _ at he; obtain ⟨h1, rfl⟩ := same_some1 he; exact ⟨rfl, fun h2 => by change same h2 _ = _; rw [h1]; rfl⟩
  case s2a s x => change same h _ = _ at he; obtain ⟨h1, rfl⟩ := same_some1 he; exact ⟨rfl, fun h2 => by change same h2 _ = _; rw [h1]; rfl⟩
  case bits s x y z => change same h _ = _ at he; obtain ⟨h1, rfl⟩ := same_some1 he; exact ⟨rfl, fun h2 => by change same h2 _ = _; rw [h1]; rfl⟩
  case minmax s x => change same h _ = _ at he; obtain ⟨h1, rfl⟩ := same_some1 he; exact ⟨rfl, fun h2 => by change same h2 _ = _; rw [h1]; rfl⟩
  case lenA n => cases he; exact ⟨rfl, fun _ => rfl⟩
  case slcStr x lo hi =>
    change o_slcStr x lo hi Q T h = _ at he
    unfold o_slcStr at he
    (repeat' split at he) <;> cases he
    refine ⟨rfl, fun h2 => ?_⟩
    change o_slcStr x lo hi Q T h2 = _
    unfold o_slcStr; simp_all
  case idxAddrA n e x y =>
    change o_idxAddrA n e x y Q T h = _ at he
    unfold o_idxAddrA at he
    (repeat' split at he) <;> cases he
    refine ⟨rfl, fun h2 => ?_⟩
    change o_idxAddrA n e x y Q T h2 = _
    unfold o_idxAddrA; simp_all
  case idxAddrS e x y =>
    change o_idxAddrS e x y Q T h = _ at he
    unfold o_idxAddrS at he
    (repeat' split at he) <;> cases he
    refine ⟨rfl, fun h2 => ?_⟩
    change o_idxAddrS e x y Q T h2 = _
    unfold o_idxAddrS; simp_all
  case idxStr x y =>
    change o_idxStr x y Q T h = _ at he
    unfold o_idxStr at he
    (repeat' split at he) <;> cases he
    refine ⟨rfl, fun h2 => ?_⟩
    change o_idxStr x y Q T h2 = _
    unfold o_idxStr; simp_all
  case idxArr n e g x y =>
    change o_idxArr n e g x y Q T h = _ at he
    unfold o_idxArr at he
    (repeat' split at he) <;> (try (cases he; done))
    obtain ⟨h1, rfl⟩ := same_some1 he
    refine ⟨rfl, fun h2 => ?_⟩
    change o_idxArr n e g x y Q T h2 = _
    unfold o_idxArr; simp_all [same]
  case fld n s x =>
    change o_fld n s x Q T h = _ at he
    unfold o_fld at he
    (repeat' split at he) <;> (try (cases he; done))
    obtain ⟨h1, rfl⟩ := same_some1 he
    refine ⟨rfl, fun h2 => ?_⟩
    change o_fld n s x Q T h2 = _
    unfold o_fld; simp_all [same]
  case ext x i =>
    change o_ext x i Q T h = _ at he
    unfold o_ext at he
    (repeat' split at he) <;> (try (cases he; done))
    obtain ⟨h1, rfl⟩ := same_some1 he
    refine ⟨rfl, fun h2 => ?_⟩
    change o_ext x i Q T h2 = _
    unfold o_ext; simp_all [same]
  case cap x =>
    change o_cap x Q T h = _ at he
    unfold o_cap at he
    (repeat' split at he) <;> cases he
    refine ⟨rfl, fun h2 => ?_⟩
    change o_cap x Q T h2 = _
    unfold o_cap; simp_all
/-- an operation of class 2 lays one block, and asks nothing of the others -/
theorem step2 {a : A} (hc : clsA a = 2) {Q : Orc} {T : Tr V} {h h1 : H} {v : V} (he : Eng.step a Q T h = some (v, h1)) : ∃ (vs : List V) (m : Md) (mk : Nat → V), h1 = h.new (.cells vs m) ∧ v = mk h.next ∧
    (∀ h2 : H, Eng.step a Q T h2 = some (mk h2.next, h2.new (.cells vs m))) ∧ ((∃ k, mk = fun n => .ptr (some (n, k))) ∨ (∃ o l c e, mk = fun n => .slice (some (n, o)) l c e)) := by
  cases a <;> (try (cases hc; done))
  case alloc z => change some _ = _ at he; cases he; exact ⟨_, _, fun n => .ptr (some (n, 0)), rfl, rfl, fun _ => rfl, .inl ⟨_, rfl⟩⟩
  case box x => change some _ = _ at he; cases he; exact ⟨_, _, fun n => .ptr (some (n, 0)), rfl, rfl, fun _ => rfl, .inl ⟨_, rfl⟩⟩
  case buildS z l e ps =>
    change o_buildS z l e ps Q T h = _ at he
    unfold o_buildS at he
    cases hf : fillV z (evP T ps) with
    | none => rw [hf] at he; cases he
    | some q =>
      rw [hf] at he; cases he
      refine ⟨_, _, fun n => .slice (some (n, 0)) l (some l) e, rfl, rfl, fun h2 => ?_, .inr ⟨_, _, _, _, rfl⟩⟩
      change o_buildS z l e ps Q T h2 = _
      unfold o_buildS; rw [hf]
  case s2b x =>
    change o_s2b x Q T h = _ at he
    unfold o_s2b at he
    split at he <;> cases he
    rename_i s hs
    refine ⟨_, _, fun n => .slice (some (n, 0)) s.length none 1, rfl, rfl, fun h2 => ?_, .inr ⟨_, _, _, _, rfl⟩⟩
    change o_s2b x Q T h2 = _
    unfold o_s2b; rw [hs]
  case mkslice z b l c =>
    change o_mkslice z b l c Q T h = _ at he
    unfold o_mkslice at he
    split at he
    · rename_i k l' k' c' h1' h2'
      cases hb : (Nat.ble l' c' && roomy c' b) with
      | false => rw [hb] at he; cases he
      | true =>
        rw [hb] at he; cases he
        refine ⟨_, _, fun n => .slice (some (n, 0)) l' (some c') z.length, rfl, rfl, fun h2 => ?_, .inr ⟨_, _, _, _, rfl⟩⟩
        change o_mkslice z b l c Q T h2 = _
        unfold o_mkslice; rw [h1', h2']; simp only [hb]; rfl
    · cases he
  case bin op e x y => simp only [clsA] at hc; split at hc <;> cases hc
end Go.Eng

/-
  ENGINE, part 17b: the orders that the machine may draw. Own work.
-/
namespace Go.Eng
open Go

/-- each operation stands behind those that its edges name -/
def Ready (m : Region.Mode) (ops : Array Oper) : List Nat → Prop
  | [] => True
  | i :: r => (∀ o, ops[i]? = some o → ∀ e ∈ o.after, Region.binds m e = true → e.on ∈ r) ∧ Ready m ops r

theorem binds_any {m : Region.Mode} {e : Edge} (h : Region.binds .any e = true) : Region.binds m e = true := by
  unfold Region.binds at *
  split at h <;> first | rfl | (exact absurd h (by decide)) | simp_all

theorem Ready.any {m : Region.Mode} {ops : Array Oper} {l : List Nat} (h : Ready m ops l) : Ready .any ops l := by
  induction l with
  | nil => trivial
  | cons i r ih => exact ⟨fun o ho e he hb => h.1 o ho e he (binds_any hb), ih h.2⟩

theorem last_out {acc : List Nat} : ∀ {l : List Nat}, (∃ i ∈ l, i ∉ acc) → ∃ s i r, l = s ++ i :: r ∧ i ∉ acc ∧ ∀ j ∈ r, j ∈ acc := by
  intro l
  induction l with
  | nil => rintro ⟨i, h, _⟩; cases h
  | cons x l ih =>
    rintro ⟨i, hi, hn⟩
    by_cases hex : ∃ i ∈ l, i ∉ acc
    · obtain ⟨s, i, r, rfl, h1, h2⟩ := ih hex
      exact ⟨x :: s, i, r, rfl, h1, h2⟩
    · have hall : ∀ j ∈ l, j ∈ acc := by
        intro j hj
        apply Classical.byContradiction
        intro h; exact hex ⟨j, hj, h⟩
      rcases List.mem_cons.1 hi with rfl | hi
      · exact ⟨[], i, l, rfl, hn, hall⟩
      · exact absurd (hall i hi) hn

theorem Ready.tail {m : Region.Mode} {ops : Array Oper} : ∀ {l : List Nat} {r : List Nat}, Ready m ops (l ++ r) → Ready m ops r := by
  intro l
  induction l with
  | nil => intro r h; exact h
  | cons i l ih => intro r h; exact ih h.2

theorem go_ok {m : Region.Mode} {ops : Array Oper} (hord : ∃ ord, Ready m ops ord ∧ ∀ i, i ∈ ord ↔ i < ops.size) : ∀ (fuel t : Nat) (listed : Array Bool) (acc : List Nat), fuel + acc.length = ops.size → listed.size = ops.size →
    (∀ j, listed.getD j false = true ↔ j ∈ acc) → acc.Nodup → (∀ j ∈ acc, j < ops.size) → Ready m ops acc →
    ∃ l : List Nat, Region.linearise.go m ops fuel t listed acc = l.reverse ∧ l.length = ops.size ∧ l.Nodup ∧ (∀ j ∈ l, j < ops.size) ∧ Ready m ops l := by
  intro fuel
  induction fuel with
  | zero => intro t listed acc h1 h2 h3 h4 h5 h6; exact ⟨acc, rfl, by omega, h4, h5, h6⟩
  | succ fuel ih =>
    intro t listed acc h1 h2 h3 h4 h5 h6
    unfold Region.linearise.go
    simp only
    generalize hrs : (List.range ops.size).filter (fun i => !listed.getD i true && ((ops[i]?).map (·.after.all fun e => !Region.binds m e || listed.getD e.on false)).getD false) = rs
    have hmem : ∀ i, i ∈ rs ↔ i < ops.size ∧ listed.getD i true = false ∧ ∀ o, ops[i]? = some o → ∀ e ∈ o.after, Region.binds m e = true → e.on ∈ acc := by
      intro i
      rw [← hrs, List.mem_filter, List.mem_range]
      constructor
      · rintro ⟨hi, hb⟩
        simp only [Bool.and_eq_true, Bool.not_eq_true'] at hb
        refine ⟨hi, hb.1, fun o ho e he hbd => ?_⟩
        have hb2 := hb.2
        rw [ho] at hb2
        simp only [Option.map_some, Option.getD_some, Array.all_eq_true_iff_forall_mem] at hb2
        have := hb2 e he
        rw [hbd] at this
        rw [← h3]; simpa using this
      · rintro ⟨hi, hl, he⟩
        refine ⟨hi, ?_⟩
        simp only [Bool.and_eq_true, Bool.not_eq_true']
        refine ⟨hl, ?_⟩
        rw [Array.getElem?_eq_getElem hi]
        simp only [Option.map_some, Option.getD_some, Array.all_eq_true_iff_forall_mem]
        intro e hem
        cases hbd : Region.binds m e with
        | false => rfl
        | true => simpa using (h3 e.on).2 (he _ (Array.getElem?_eq_getElem hi) e hem hbd)
    -- the first that is not listed is ready
    have hne : rs ≠ [] := by
      have hex : ∃ i, i < ops.size ∧ i ∉ acc := by
        apply Classical.byContradiction
        intro hno
        have hsub : ∀ i ∈ List.range ops.size, i ∈ acc := by
          intro i hi
          apply Classical.byContradiction
          intro hi2
          exact hno ⟨i, List.mem_range.1 hi, hi2⟩
        have := List.Nodup.length_le_of_subset List.nodup_range hsub
        rw [List.length_range] at this
        omega
      obtain ⟨i, hi, hna⟩ := hex
      obtain ⟨ord, ho1, ho2⟩ := hord
      obtain ⟨s, i, r, e, hna, hall⟩ := last_out (l := ord) ⟨i, (ho2 i).2 hi, hna⟩
      have hrd : Ready m ops (i :: r) := Ready.tail (l := s) (by rw [← e]; exact ho1)
      by_cases hi : i < ops.size
      · have : i ∈ rs := (hmem i).2 ⟨hi, by
          have := mt (h3 i).1 hna
          rw [Array.getD_eq_getD_getElem?, Array.getElem?_eq_getElem (by omega)] at this ⊢
          simpa using this, fun o ho e he hb => hall _ (hrd.1 o ho e he hb)⟩
        intro h0; rw [h0] at this; cases this
      · exact absurd ((ho2 i).1 (by rw [e]; simp)) hi
    have hlen : 0 < rs.length := List.length_pos_iff.2 hne
    rw [List.getElem?_eq_getElem (Nat.mod_lt _ hlen)]
    simp only
    have hin := List.getElem_mem (Nat.mod_lt t hlen)
    generalize rs[t % rs.length]'(Nat.mod_lt t hlen) = i at hin
    obtain ⟨hi, hl, hr⟩ := (hmem i).1 hin
    have hna : i ∉ acc := by
      intro h
      have := (h3 i).2 h
      rw [Array.getD_eq_getD_getElem?, Array.getElem?_eq_getElem (by omega)] at this hl
      simp only [Option.getD_some] at this hl
      rw [this] at hl; cases hl
    refine ih _ _ _ (by simp only [List.length_cons]; omega) (by rw [Array.size_setIfInBounds]; exact h2) ?_ (List.nodup_cons.2 ⟨hna, h4⟩) ?_ ⟨hr, h6⟩
    · intro j
      rw [Array.getD_eq_getD_getElem?]
      by_cases hij : i = j
      · subst hij
        rw [Array.getElem?_setIfInBounds_self_of_lt (by omega)]
        simp
      · rw [Array.getElem?_setIfInBounds_ne hij, ← Array.getD_eq_getD_getElem?, h3 j, List.mem_cons]
        exact ⟨.inr, fun h => h.resolve_left (fun e => hij e.symm)⟩
    · intro j hj
      rcases List.mem_cons.1 hj with rfl | hj
      · exact hi
      · exact h5 j hj

theorem memN_iff {i : Nat} : ∀ {l : List Nat}, memN i l = true ↔ i ∈ l := by
  intro l
  induction l with
  | nil => simp [memN]
  | cons j r ih =>
    simp only [memN, Bool.or_eq_true, List.mem_cons, ih]
    rw [Nat.beq_eq]

theorem pickN_ok {m : Region.Mode} {acc : List Nat} : ∀ {l : List Oper} {n i : Nat}, pickN m acc l n = some i → n ≤ i ∧ ∃ o, l[i - n]? = some o ∧ ∀ e ∈ o.after, Region.binds m e = true → e.on ∈ acc := by
  intro l
  induction l with
  | nil => intro n i h; cases h
  | cons o r ih =>
    intro n i h
    simp only [pickN] at h
    split at h
    · rename_i hc
      cases h
      refine ⟨Nat.le_refl _, o, by simp, fun e he hb => ?_⟩
      simp only [Bool.and_eq_true, List.all_eq_true] at hc
      have := hc.2 e (by simpa using he)
      rw [hb] at this
      exact memN_iff.1 (by simpa using this)
    · obtain ⟨h1, o', h2, h3⟩ := ih h
      refine ⟨by omega, o', ?_, h3⟩
      rw [show i - n = (i - (n + 1)) + 1 by omega, List.getElem?_cons_succ]
      exact h2

theorem topo_ok {m : Region.Mode} {ops : Array Oper} : ∀ (n : Nat) (acc : List Nat), Ready m ops acc → (∀ i ∈ acc, i < ops.size) → Ready m ops (topo m ops.toList n acc) ∧ ∀ i ∈ topo m ops.toList n acc, i < ops.size := by
  intro n
  induction n with
  | zero => intro acc h h2; exact ⟨h, h2⟩
  | succ n ih =>
    intro acc h h2
    simp only [topo]
    cases hp : pickN m acc ops.toList 0 with
    | none => exact ⟨h, h2⟩
    | some i =>
      obtain ⟨_, o, ho, he⟩ := pickN_ok hp
      rw [Nat.sub_zero, Array.getElem?_toList] at ho
      refine ih (i :: acc) ⟨fun o' ho' e hem hb => ?_, h⟩ fun j hj => ?_
      · rw [ho] at ho'; cases ho'; exact he e hem hb
      · rcases List.mem_cons.1 hj with rfl | hj
        · exact (Array.getElem?_eq_some_iff.1 ho).1
        · exact h2 j hj

theorem allN_ok {acc : List Nat} : ∀ {n : Nat}, allN acc n = true → ∀ i, i < n → i ∈ acc := by
  intro n
  induction n with
  | zero => intro _ i h; omega
  | succ n ih =>
    intro h i hi
    simp only [allN, Bool.and_eq_true] at h
    by_cases hin : i = n
    · subst hin; exact memN_iff.1 h.1
    · exact ih h.2 i (by omega)

theorem full_ok {m : Region.Mode} {ops : Array Oper} (h : fullOk m ops.toList = true) : ∃ ord, Ready m ops ord ∧ ∀ i, i ∈ ord ↔ i < ops.size := by
  obtain ⟨h1, h2⟩ := topo_ok (m := m) (ops := ops) ops.toList.length [] trivial (by intro i h; cases h)
  exact ⟨_, h1, fun i => ⟨h2 i, fun hi => allN_ok h i (by simpa using hi)⟩⟩

theorem text_ok {ops : Array Oper} (hedge : ∀ (i : Nat) (o : Oper), ops[i]? = some o → ∀ e ∈ o.after, Region.binds .any e = true → e.on < i) : ∃ ord, Ready .any ops ord ∧ ∀ i, i ∈ ord ↔ i < ops.size := by
  refine ⟨(List.range ops.size).reverse, ?_, fun i => by simp⟩
  generalize ops.size = n
  induction n with
  | zero => trivial
  | succ n ih =>
    rw [List.range_succ, List.reverse_append]
    refine ⟨fun o ho e he hb => ?_, ih⟩
    have := hedge n o ho e he hb
    simpa using this

theorem departsN_iff {ops : Array Oper} : departsN ops.toList = Region.departs ops := by
  unfold departsN Region.departs
  rw [← Array.any_toList]
  congr 1
  funext o
  rw [← Array.any_toList]

theorem schedule_ok {ops : Array Oper} (hedge : ∀ (i : Nat) (o : Oper), ops[i]? = some o → ∀ e ∈ o.after, Region.binds .any e = true → e.on < i)
    (hdep : departsN ops.toList = true → fullOk .text ops.toList = true ∧ fullOk .gc ops.toList = true) (mixed : Bool) (t : Nat) :
    ∃ l : List Nat, Region.schedule mixed ops t = l.reverse ∧ l.length = ops.size ∧ l.Nodup ∧ (∀ j ∈ l, j < ops.size) ∧ Ready .any ops l := by
  have h : ∀ m t, (∃ ord, Ready m ops ord ∧ ∀ i, i ∈ ord ↔ i < ops.size) → ∃ l : List Nat, Region.linearise m ops t = l.reverse ∧ l.length = ops.size ∧ l.Nodup ∧ (∀ j ∈ l, j < ops.size) ∧ Ready .any ops l := by
    intro m t hord
    obtain ⟨l, h1, h2, h3, h4, h5⟩ := go_ok (m := m) hord ops.size t (Array.replicate ops.size false) [] (by simp) (by simp) (by intro j; by_cases hj : j < ops.size <;> simp [Array.getD, hj]) .nil (by intro j hj; cases hj) trivial
    exact ⟨l, h1, h2, h3, h4, h5.any⟩
  unfold Region.schedule
  split
  · exact h _ _ (text_ok hedge)
  · rename_i hc
    simp only [Bool.or_eq_true, Bool.not_eq_true', not_or, Bool.not_eq_false] at hc
    obtain ⟨d1, d2⟩ := hdep (by rw [departsN_iff]; exact hc.2)
    refine h _ _ ?_
    split
    · exact full_ok d1
    · exact full_ok d2
end Go.Eng

/-
  ENGINE, part 17c: what stands ahead of what. Own work.
-/
namespace Go.Eng
open Go

theorem force_eq {α : Type} (n : Nat) (k : Nat → α) : force n k = k n := by cases n <;> rfl

/-- a mask out of those before it -/
def mask1 (o : Oper) (before : List Nat) : Nat := o.after.toList.foldl (fun s e => if Region.binds .any e then s ||| 2 ^ e.on ||| before.getD e.on 0 else s) 0

theorem masks_cons (o : Oper) (r : List Oper) (acc : List Nat) : masks (o :: r) acc = masks r (mask1 o acc.reverse :: acc) := by
  rw [masks.eq_2, force_eq]
  rfl

theorem masks_get : ∀ (l : List Oper) (acc : List Nat), (∀ i, i < acc.length → (masks l acc)[i]? = acc.reverse[i]?) ∧ (masks l acc).length = acc.length + l.length ∧
    ∀ i o, l[i]? = some o → (masks l acc)[acc.length + i]? = some (mask1 o ((masks l acc).take (acc.length + i))) := by
  intro l
  induction l with
  | nil => intro acc; exact ⟨fun i _ => rfl, by simp [masks], fun i o h => by cases h⟩
  | cons x r ih =>
    intro acc
    rw [masks_cons]
    obtain ⟨h1, h2, h3⟩ := ih (mask1 x acc.reverse :: acc)
    simp only [List.length_cons] at h1 h2 h3
    have hbefore : ∀ i, i < acc.length → (masks r (mask1 x acc.reverse :: acc))[i]? = acc.reverse[i]? := by
      intro i hi
      rw [h1 i (by omega), List.reverse_cons, List.getElem?_append_left (by simpa using hi)]
    refine ⟨hbefore, by simp only [List.length_cons]; omega, ?_⟩
    intro i o ho
    cases i with
    | zero =>
      simp only [List.getElem?_cons_zero, Option.some.injEq] at ho
      subst ho
      rw [Nat.add_zero, h1 _ (by omega), List.reverse_cons, List.getElem?_append_right (by simp)]
      simp only [List.length_reverse, Nat.sub_self, List.getElem?_cons_zero, Option.some.injEq]
      congr 1
      apply List.ext_getElem?
      intro j
      rw [List.getElem?_take]
      split
      · rename_i hj; exact (hbefore j hj).symm
      · rename_i hj; exact List.getElem?_eq_none (by simpa using Nat.le_of_not_lt hj)
    | succ i =>
      simp only [List.getElem?_cons_succ] at ho
      have := h3 i o ho
      rw [show acc.length + 1 + i = acc.length + (i + 1) by omega] at this
      exact this

theorem fold_testBit (before : List Nat) (a : Nat) : ∀ (l : List Edge) (s : Nat), (l.foldl (fun s e => if Region.binds .any e then s ||| 2 ^ e.on ||| before.getD e.on 0 else s) s).testBit a = true →
    s.testBit a = true ∨ ∃ e ∈ l, Region.binds .any e = true ∧ (e.on = a ∨ (before.getD e.on 0).testBit a = true) := by
  intro l
  induction l with
  | nil => intro s h; exact .inl h
  | cons e l ih =>
    intro s h
    rw [List.foldl_cons] at h
    rcases ih _ h with h1 | ⟨e', h2, h3⟩
    · cases hb : Region.binds .any e with
      | false => rw [hb] at h1; exact .inl h1
      | true =>
        rw [hb] at h1
        simp only [if_true, Nat.testBit_or, Bool.or_eq_true] at h1
        rcases h1 with (h1 | h1) | h1
        · exact .inl h1
        · refine .inr ⟨e, List.mem_cons_self .., hb, .inl ?_⟩
          rw [Nat.testBit_two_pow] at h1
          simpa using h1
        · exact .inr ⟨e, List.mem_cons_self .., hb, .inr h1⟩
    · exact .inr ⟨e', List.mem_cons_of_mem _ h2, h3⟩

theorem ahead_edge {ops : Array Oper} (hedge : ∀ (i : Nat) (o : Oper), ops[i]? = some o → ∀ e ∈ o.after, Region.binds .any e = true → e.on < i) {a b : Nat} (h : ahead (masks ops.toList []) a b = true) :
    ∃ o, ops[b]? = some o ∧ ∃ e ∈ o.after, Region.binds .any e = true ∧ (e.on = a ∨ ahead (masks ops.toList []) a e.on = true) := by
  obtain ⟨_, h2, h3⟩ := masks_get ops.toList []
  simp only [List.length_nil, Nat.zero_add] at h2 h3
  unfold ahead at h ⊢
  cases ho : ops.toList[b]? with
  | none =>
    have : (masks ops.toList [])[b]? = none := List.getElem?_eq_none (by rw [h2]; exact List.getElem?_eq_none_iff.1 ho)
    rw [List.getD_eq_getElem?_getD, this] at h
    simp at h
  | some o =>
    have hm := h3 b o ho
    rw [List.getD_eq_getElem?_getD, hm, Option.getD_some] at h
    have ho' : ops[b]? = some o := by rw [← Array.getElem?_toList]; exact ho
    refine ⟨o, ho', ?_⟩
    rcases fold_testBit _ a _ _ h with h0 | ⟨e, he, hb, hc⟩
    · simp at h0
    · refine ⟨e, by simpa using he, hb, ?_⟩
      rcases hc with hc | hc
      · exact .inl hc
      · right
        have hlt := hedge b o ho' e (by simpa using he) hb
        rw [List.getD_eq_getElem?_getD, List.getElem?_take, if_pos hlt, ← List.getD_eq_getElem?_getD] at hc
        exact hc

/-- what stands ahead has been done -/
theorem ahead_ok {ops : Array Oper} (hedge : ∀ (i : Nat) (o : Oper), ops[i]? = some o → ∀ e ∈ o.after, Region.binds .any e = true → e.on < i) : ∀ (n a b : Nat), b < n → ahead (masks ops.toList []) a b = true → ∀ r, Ready .any ops (b :: r) → a ∈ r := by
  intro n
  induction n with
  | zero => intro a b h; omega
  | succ n ih =>
    intro a b hb h r hr
    obtain ⟨o, ho, e, he, hbd, hc⟩ := ahead_edge hedge h
    have hin := hr.1 o ho e he hbd
    rcases hc with rfl | hc
    · exact hin
    · obtain ⟨s, t, rfl⟩ := List.append_of_mem hin
      have hlt := hedge b o ho e he hbd
      have := ih a e.on (by omega) hc t (Ready.tail (l := s) hr.2)
      exact List.mem_append_right _ (List.mem_cons_of_mem _ this)
theorem ahead_lt {ops : Array Oper} (hedge : ∀ (i : Nat) (o : Oper), ops[i]? = some o → ∀ e ∈ o.after, Region.binds .any e = true → e.on < i) : ∀ (n a b : Nat), b < n → ahead (masks ops.toList []) a b = true → a < b := by
  intro n
  induction n with
  | zero => intro a b h; omega
  | succ n ih =>
    intro a b hb h
    obtain ⟨o, ho, e, he, hbd, hc⟩ := ahead_edge hedge h
    have hlt := hedge b o ho e he hbd
    rcases hc with rfl | hc
    · exact hlt
    · have := ih a e.on (by omega) hc; omega
end Go.Eng

/-
  ENGINE, part 17d: temporaries in any order. Own work.
-/
namespace Go.Eng
open Go

theorem desc_eq : ∀ (l m : List Nat), l.Pairwise (· > ·) → m.Pairwise (· > ·) → (∀ x, x ∈ l ↔ x ∈ m) → l = m := by
  intro l
  induction l with
  | nil =>
    intro m _ _ h
    cases m with
    | nil => rfl
    | cons y m => exact absurd ((h y).2 (List.mem_cons_self ..)) (by simp)
  | cons x l ih =>
    intro m hl hm h
    cases m with
    | nil => exact absurd ((h x).1 (List.mem_cons_self ..)) (by simp)
    | cons y m =>
      rw [List.pairwise_cons] at hl hm
      have h1 : x = y := by
        have hx := (h x).1 (List.mem_cons_self ..)
        have hy := (h y).2 (List.mem_cons_self ..)
        rcases List.mem_cons.1 hx with h1 | h1
        · exact h1
        · rcases List.mem_cons.1 hy with h2 | h2
          · exact h2.symm
          · have a := hm.1 _ h1; have b := hl.1 _ h2; omega
      subst h1
      rw [ih m hl.2 hm.2 (fun z => ?_)]
      constructor
      · intro hz
        rcases List.mem_cons.1 ((h z).1 (List.mem_cons_of_mem _ hz)) with h1 | h1
        · subst h1; have := hl.1 _ hz; omega
        · exact h1
      · intro hz
        rcases List.mem_cons.1 ((h z).2 (List.mem_cons_of_mem _ hz)) with h1 | h1
        · subst h1; have := hm.1 _ hz; omega
        · exact h1

/-- the temporaries behind a list of operations, the last one first -/
noncomputable def TL (T0 : Tr V) (dst : Nat → Option Nat) (v : Nat → V) : List Nat → Tr V
  | [] => T0
  | i :: r => putT (TL T0 dst v r) (dst i) (v i)

theorem TL_get (T0 : Tr V) (dst : Nat → Option Nat) (v : Nat → V) (d : Nat) : ∀ r, (TL T0 dst v r).get d = match (r.filter (fun i => dst i == some d)).head? with | some i => some (v i) | none => T0.get d := by
  intro r
  induction r with
  | nil => rfl
  | cons i r ih =>
    simp only [TL]
    cases hd : dst i with
    | none =>
      rw [List.filter_cons_of_neg (by rw [hd]; simp)]
      exact ih
    | some e =>
      simp only [putT]
      rw [Tr.get_set]
      by_cases he : e = d
      · subst he
        rw [List.filter_cons_of_pos (by rw [hd]; simp)]
        simp
      · rw [List.filter_cons_of_neg (by rw [hd]; simpa using he), if_neg he]
        exact ih

theorem desc_range (n : Nat) : ((List.range n).reverse).Pairwise (· > ·) := by
  rw [List.pairwise_reverse]
  exact List.pairwise_lt_range

section
variable {ops : Array Oper}

/-- those that stand in an order to each other stand in that of the text -/
theorem desc_filter (hedge : ∀ (i : Nat) (o : Oper), ops[i]? = some o → ∀ e ∈ o.after, Region.binds .any e = true → e.on < i) {p : Nat → Bool} (hp : ∀ i j, p i = true → p j = true → i = j ∨ cmp (masks ops.toList []) i j = true) : ∀ {r : List Nat}, Ready .any ops r → r.Nodup → (r.filter p).Pairwise (· > ·) := by
  intro r
  induction r with
  | nil => intro _ _; exact .nil
  | cons i r ih =>
    intro hr hn
    rw [List.nodup_cons] at hn
    have := ih hr.2 hn.2
    cases hpi : p i with
    | false => rw [List.filter_cons_of_neg (by simp [hpi])]; exact this
    | true =>
      rw [List.filter_cons_of_pos hpi, List.pairwise_cons]
      refine ⟨fun j hj => ?_, this⟩
      rw [List.mem_filter] at hj
      rcases hp i j hpi hj.2 with h | h
      · subst h; exact absurd hj.1 hn.1
      · unfold cmp at h
        rcases Nat.lt_trichotomy i j with hlt | heq | hgt
        · exfalso
          rw [Nat.min_eq_left (by omega), Nat.max_eq_right (by omega)] at h
          obtain ⟨s, t, rfl⟩ := List.append_of_mem hj.1
          have := ahead_ok hedge (j + 1) i j (by omega) h t (Ready.tail (l := s) hr.2)
          exact hn.1 (List.mem_append_right _ (List.mem_cons_of_mem _ this))
        · subst heq; exact absurd hj.1 hn.1
        · exact hgt

/-- whoever stands in an order to the next one is behind it if its place is smaller -/
theorem done_iff (hedge : ∀ (i : Nat) (o : Oper), ops[i]? = some o → ∀ e ∈ o.after, Region.binds .any e = true → e.on < i) {i j : Nat} {r : List Nat} (hr : Ready .any ops (j :: r)) (hn : (j :: r).Nodup) (hij : i ≠ j) (hc : cmp (masks ops.toList []) i j = true) : i ∈ r ↔ i < j := by
  rw [List.nodup_cons] at hn
  unfold cmp at hc
  constructor
  · intro hi
    rcases Nat.lt_or_ge i j with h | h
    · exact h
    · exfalso
      rw [Nat.min_eq_right (by omega), Nat.max_eq_left (by omega)] at hc
      obtain ⟨s, t, rfl⟩ := List.append_of_mem hi
      have := ahead_ok hedge (i + 1) j i (by omega) hc t (Ready.tail (l := s) hr.2)
      exact hn.1 (List.mem_append_right _ (List.mem_cons_of_mem _ this))
  · intro hlt
    rw [Nat.min_eq_left (by omega), Nat.max_eq_right (by omega)] at hc
    exact ahead_ok hedge (j + 1) i j (by omega) hc r hr

/-- what an operation finds in a temporary is what it would find in the order of the text -/
theorem TL_agree (hedge : ∀ (i : Nat) (o : Oper), ops[i]? = some o → ∀ e ∈ o.after, Region.binds .any e = true → e.on < i) {T0 : Tr V} {dst : Nat → Option Nat} {v : Nat → V} {d j : Nat} {r : List Nat} (hr : Ready .any ops (j :: r)) (hn : (j :: r).Nodup)
    (hw : ∀ i k, dst i = some d → dst k = some d → i = k ∨ cmp (masks ops.toList []) i k = true) (hj : ∀ i, dst i = some d → i = j ∨ cmp (masks ops.toList []) i j = true) :
    (TL T0 dst v r).get d = (TL T0 dst v (List.range j).reverse).get d := by
  rw [TL_get, TL_get]
  have : r.filter (fun i => dst i == some d) = (List.range j).reverse.filter (fun i => dst i == some d) := by
    apply desc_eq
    · exact desc_filter hedge (fun i k hi hk => hw i k (by simpa using hi) (by simpa using hk)) hr.2 (List.nodup_cons.1 hn).2
    · exact (desc_range j).filter _
    · intro x
      rw [List.mem_filter, List.mem_filter, List.mem_reverse, List.mem_range]
      constructor
      · rintro ⟨h1, h2⟩
        refine ⟨?_, h2⟩
        rcases hj x (by simpa using h2) with rfl | hc
        · exact absurd h1 (List.nodup_cons.1 hn).1
        · exact (done_iff hedge hr hn (by rintro rfl; exact (List.nodup_cons.1 hn).1 h1) hc).1 h1
      · rintro ⟨h1, h2⟩
        refine ⟨?_, h2⟩
        rcases hj x (by simpa using h2) with rfl | hc
        · omega
        · exact (done_iff hedge hr hn (by omega) hc).2 h1
  rw [this]

theorem TL_final (hedge : ∀ (i : Nat) (o : Oper), ops[i]? = some o → ∀ e ∈ o.after, Region.binds .any e = true → e.on < i) {T0 : Tr V} {dst : Nat → Option Nat} {v : Nat → V} {n : Nat} {l : List Nat} (hr : Ready .any ops l) (hn : l.Nodup) (hm : ∀ i, i ∈ l ↔ i < n) {d : Nat}
    (hw : ∀ i k, dst i = some d → dst k = some d → i = k ∨ cmp (masks ops.toList []) i k = true) : (TL T0 dst v l).get d = (TL T0 dst v (List.range n).reverse).get d := by
  rw [TL_get, TL_get]
  have : l.filter (fun i => dst i == some d) = (List.range n).reverse.filter (fun i => dst i == some d) := by
    apply desc_eq
    · exact desc_filter hedge (fun i k hi hk => hw i k (by simpa using hi) (by simpa using hk)) hr hn
    · exact (desc_range n).filter _
    · intro x
      rw [List.mem_filter, List.mem_filter, List.mem_reverse, List.mem_range, hm]
  rw [this]
end
end Go.Eng

/-
  ENGINE, part 17e: a step beside blocks that it does not know. Own work.
-/
namespace Go.Eng
open Go

variable {P : Program} {g : Gn} {μ μ1 : Mu} {w w1 : World}

/-- fewer blocks -/
theorem HR.sub {Y Y' : H} (hr : HR P g μ Y w) (hsub : ∀ i b, Y'.get i = some b → Y.get i = some b) (hnext : Y'.next = Y.next) : HR P g μ Y' w :=
  ⟨fun i hi => hr.fresh i (by rw [← hnext]; exact hi), fun i b hb => hr.blk i b (hsub i b hb), fun i j bi bj a x y hi hj ho hmi hmj => hr.inj i j bi bj a x y (hsub _ _ hi) (hsub _ _ hj) ho hmi hmj⟩

/-- the same blocks -/
theorem HR.same {Y Y' : H} (hr : HR P g μ Y w) (hget : ∀ i, Y'.get i = Y.get i) (hnext : Y'.next = Y.next) : HR P g μ Y' w := hr.sub (fun i b h => by rw [← hget]; exact h) hnext

theorem frame {Y Y' h1 G : H} (hr : HR P g μ Y w) (hsub : ∀ i b, Y'.get i = some b → Y.get i = some b) (hnext : Y'.next = Y.next) (hr1 : HR P g μ1 h1 w1) (hx : Ext μ Y' w μ1 h1 w1)
    (E : Nat → Prop) (hE : ∀ i, E i → Y'.get i = none) (hGE : ∀ i, E i → G.get i = Y.get i) (hGn : ∀ i, ¬ E i → G.get i = h1.get i) (hGnext : G.next = h1.next) :
    HR P g μ1 G w1 ∧ Ext μ Y w μ1 G w1 := by
  have hold : ∀ i bi, E i → G.get i = some bi → Y.get i = some bi ∧ ∃ a x, μ i = some (a, x) ∧ BR P g μ w bi a x := by
    intro i bi hi hg
    rw [hGE i hi] at hg
    exact ⟨hg, hr.blk i bi hg⟩
  have hmu : ∀ i bi a x, E i → G.get i = some bi → μ1 i = some (a, x) → μ i = some (a, x) := by
    intro i bi a x hi hg hm
    obtain ⟨_, a', x', h2, _⟩ := hold i bi hi hg
    have := hx.mu _ _ h2
    rw [hm] at this; cases this; exact h2
  refine ⟨⟨fun i hi => hr1.fresh i (by rw [← hGnext]; exact hi), ?_, ?_⟩, ⟨hx.mu, hx.size, hx.sz, ?_, ?_, ?_, hx.io, fun i hi => hx.old i (by rw [hnext]; exact hi)⟩⟩
  · intro i b hg
    by_cases hi : E i
    · obtain ⟨h1', a, x, h2, h3⟩ := hold i b hi hg
      refine ⟨a, x, hx.mu _ _ h2, h3.mono hx.mu hx.sz (hx.keep a h3.lt ?_)⟩
      intro i' blk' base' hg' ho' hm'
      have := hr.inj i' i blk' b a base' x (hsub _ _ hg') h1' ho' hm' h2
      subst this
      rw [hE _ hi] at hg'; cases hg'
    · rw [hGn i hi] at hg; exact hr1.blk i b hg
  · intro i j bi bj a x y hi hj ho hmi hmj
    by_cases ei : E i
    · have hmi' := hmu i bi a x ei hi hmi
      obtain ⟨hHi, a', x', q2, q3⟩ := hold i bi ei hi
      rw [hmi'] at q2; cases q2
      by_cases ej : E j
      · exact hr.inj i j bi bj a x y hHi (hold j bj ej hj).1 ho hmi' (hmu j bj a y ej hj hmj)
      · exfalso
        rw [hGn j ej] at hj
        obtain ⟨i', blk', base', k1, k2, k3⟩ := hx.img j bj a y hj hmj q3.lt
        have := hr.inj i i' bi blk' a x base' hHi (hsub _ _ k1) ho hmi' k3
        subst this
        rw [hE _ ei] at k1; cases k1
    · by_cases ej : E j
      · exfalso
        have hmj' := hmu j bj a y ej hj hmj
        obtain ⟨hHj, a', y', q2, q3⟩ := hold j bj ej hj
        rw [hmj'] at q2; cases q2
        rw [hGn i ei] at hi
        obtain ⟨i', blk', base', k1, k2, k3⟩ := hx.img i bi a x hi hmi q3.lt
        have := hr.inj i' j blk' bj a base' y (hsub _ _ k1) hHj (k2 ho) k3 hmj'
        subst this
        rw [hE _ ej] at k1; cases k1
      · rw [hGn i ei] at hi; rw [hGn j ej] at hj
        exact hr1.inj i j bi bj a x y hi hj ho hmi hmj
  · intro b hb hn
    exact hx.keep b hb (fun i blk base hg ho => hn i blk base (hsub _ _ hg) ho)
  · intro i blk b base hg hm hlt
    by_cases hi : E i
    · exact ⟨i, blk, base, (hold i blk hi hg).1, id, hmu i blk b base hi hg hm⟩
    · rw [hGn i hi] at hg
      obtain ⟨i', blk', base', k1, k2, k3⟩ := hx.img i blk b base hg hm hlt
      exact ⟨i', blk', base', hsub _ _ k1, k2, k3⟩
  · rw [hGnext, ← hnext]; exact hx.next
end Go.Eng

/-
  ENGINE, part 17f: equal values; operations that read. Own work.
-/
namespace Go.Eng
open Go

theorem strEq_true : ∀ {a b : List Nat}, strEq a b = true → a = b := by
  intro a
  induction a with
  | nil => intro b h; cases b with | nil => rfl | cons => cases h
  | cons x a ih =>
    intro b h
    cases b with
    | nil => cases h
    | cons y b =>
      simp only [strEq] at h
      cases hxy : Nat.beq x y with
      | false => rw [hxy] at h; cases h
      | true => rw [hxy] at h; rw [Nat.eq_of_beq_eq_true hxy, ih h]
theorem ieq_true {a b : Int} (h : ieq a b = true) : a = b := by
  cases a <;> cases b <;> simp only [ieq, Bool.false_eq_true] at h <;> rw [Nat.eq_of_beq_eq_true h]

theorem V.beq_true : (∀ a b : V, V.beq a b = true → a = b) := by
  intro a
  refine V.rec (motive_1 := fun a => ∀ b, V.beq a b = true → a = b) (motive_2 := fun l => ∀ m, V.beqs l m = true → l = m) ?_ ?_ ?_ ?_ ?_ ?_ ?_ ?_ ?_ ?_ ?_ ?_ ?_ ?_ ?_ a
  all_goals (intros; rename_i b hb)
  all_goals cases b <;> (try (simp only [V.beq, V.beqs, Bool.false_eq_true] at hb; done)) <;> (try rfl)
  all_goals simp only [V.beq, V.beqs, Bool.and_eq_true, beq_iff_eq] at hb
  · rw [hb]
  · rw [kindEq_true hb.1, ieq_true hb.2]
  · rw [strEq_true hb]
  · rw [hb]
  · rw [hb.1.1.1, hb.1.1.2, hb.1.2, hb.2]
  · rw [hb]
  · rename_i h1 h2 _ _ _; rw [hb.1.1, h1 _ hb.1.2, h2 _ hb.2]
  · rw [hb]
  · rename_i h1 _ _; rw [hb.1, h1 _ hb.2]
  · rename_i h1 _; rw [h1 _ hb]
  · rename_i h1 _; rw [h1 _ hb]
  · rename_i h1 h2 _ _; rw [h1 _ hb.1, h2 _ hb.2]

/-- an operation of class 1 leaves the heap -/
theorem step1 {a : A} (hc : clsA a = 1) {Q : Orc} {T : Tr V} {h h1 : H} {v : V} (he : Eng.step a Q T h = some (v, h1)) : h1 = h := by
  cases a <;> (try (cases hc; done))
  case bin op e x y => change same h _ = _ at he; exact (same_some1 he).2
  case load n x => change same h _ = _ at he; exact (same_some1 he).2
  case b2s x => change same h _ = _ at he; exact (same_some1 he).2
  case slcA n e x lo hi mx =>
    change o_slcA n e x lo hi mx Q T h = _ at he
    unfold o_slcA at he
    split at he
    · split at he
      · have key : ∀ {α : Type} {b : Bool} {x : Option α} {y : α}, (bif b then x else none) = some y → x = some y := by
          intro α b x y h; cases b with | true => exact h | false => cases h
        have he := key he
        (repeat' split at he) <;> cases he
        rfl
      · cases he
    · cases he
end Go.Eng

/-
  ENGINE, part 17g: a row laid at a number that was kept for it. Own work.
-/
namespace Go.Eng
open Go

variable {P : Program} {g : Gn} {μ : Mu} {w : World}

theorem HR.newAt {h : H} (hr : HR P g μ h w) (s : Nat) (hs : μ s = none) (hlt : s < h.next) (w0 : World) (hw0 : w0.heap = w.heap) (hio : w0.os = w.os ∧ w0.output = w.output) (c : Array Value) (e : TypeId) (fz : Nat × Nat) (vs : List V) (m : Md)
    (hv : ∀ (j : Nat) v, vs[j]? = some v → ∃ x, c[j]? = some x ∧ VR g μ (szOf w) v x) (hlen : vs.length ≤ c.size) (hf : fz.1 = fz.2 ∨ c.size ≤ fz.1) (hf2 : m = .rw → fz.1 = fz.2) :
    HR P g (μ.add s (w.heap.size, 0)) (h.put s (.cells vs m)) (w0.alloc (.cells c e fz)) ∧
      (∀ (μ0 : Mu) (h0 : H) (ws : World), Ext μ0 h0 ws μ h w → h0.next ≤ s → Ext μ0 h0 ws (μ.add s (w.heap.size, 0)) (h.put s (.cells vs m)) (w0.alloc (.cells c e fz))) ∧
      szOf (w0.alloc (.cells c e fz)) w.heap.size = some c.size ∧ Sz.le (szOf w) (szOf (w0.alloc (.cells c e fz))) := by
  have hw1 : (w0.alloc (.cells c e fz)).heap = w.heap.push (.cells c e fz) := by simp [World.alloc, hw0]
  have hnew : (w0.alloc (.cells c e fz)).heap[w.heap.size]? = some (.cells c e fz) := by rw [hw1]; simp
  have hold : ∀ b, b < w.heap.size → (w0.alloc (.cells c e fz)).heap[b]? = w.heap[b]? := by
    intro b hb
    rw [hw1, Array.getElem?_push, if_neg (Nat.ne_of_lt hb)]
  have hle := Mu.le_add (x := (w.heap.size, 0)) hs
  have hsz : Sz.le (szOf w) (szOf (w0.alloc (.cells c e fz))) := by
    intro b n hb
    have hlt : b < w.heap.size := by
      unfold szOf at hb
      rcases Nat.lt_or_ge b w.heap.size with h' | h'
      · exact h'
      · rw [Array.getElem?_eq_none h'] at hb; cases hb
    unfold szOf at hb ⊢
    rw [hold b hlt]; exact hb
  have hio1 : (w0.alloc (.cells c e fz)).os = w.os ∧ (w0.alloc (.cells c e fz)).output = w.output := hio
  generalize w0.alloc (.cells c e fz) = w1 at hw1 hnew hold hsz hio1
  refine ⟨⟨?_, ?_, ?_⟩, ?_, szOf_cells hnew, hsz⟩
  · intro i hi
    have hi' : h.next ≤ i := hi
    rw [Mu.add_other _ _ (by omega)]
    exact hr.fresh i hi'
  · intro i b hg
    rw [H.get_put] at hg
    split at hg
    · rename_i e'; subst e'; cases hg
      exact ⟨_, _, Mu.add_same _ _ _, c, e, fz, hnew, by omega, fun j v hj => by
        obtain ⟨x, h1, h2⟩ := hv j v hj
        exact ⟨x, by rw [Nat.zero_add]; exact h1, h2.mono hle hsz⟩, fun _ => hf, hf2⟩
    · rename_i e'
      obtain ⟨a, base, hm, hbr⟩ := hr.blk i b hg
      exact ⟨a, base, by rw [Mu.add_other _ _ e']; exact hm, hbr.mono hle hsz (hold a hbr.lt)⟩
  · intro i j bi bj a x y hi hj ho hmi hmj
    rw [H.get_put] at hi hj
    split at hi
    · rename_i ei; subst ei
      split at hj
      · rename_i ej; exact ej
      · rename_i ej
        rw [Mu.add_same] at hmi; rw [Mu.add_other _ _ ej] at hmj
        obtain ⟨a', base', hm, hbr⟩ := hr.blk j bj hj
        have := hbr.lt
        rw [hmj] at hm; cases hm; cases hmi; omega
    · rename_i ei
      split at hj
      · rename_i ej; subst ej
        rw [Mu.add_same] at hmj; rw [Mu.add_other _ _ ei] at hmi
        obtain ⟨a', base', hm, hbr⟩ := hr.blk i bi hi
        have := hbr.lt
        rw [hmi] at hm; cases hm; cases hmj; omega
      · rename_i ej
        rw [Mu.add_other _ _ ei] at hmi; rw [Mu.add_other _ _ ej] at hmj
        exact hr.inj i j bi bj a x y hi hj ho hmi hmj
  · intro μ0 h0 ws hx hge
    refine ⟨Mu.le_trans hx.mu hle, ?_, Sz.le_trans hx.sz hsz, ?_, ?_, hx.next, ⟨hio1.1.trans hx.io.1, hio1.2.trans hx.io.2⟩, ?_⟩
    · rw [hw1]; have := hx.size; simp; omega
    · intro b hb hn
      rw [hold b (Nat.lt_of_lt_of_le hb hx.size)]
      exact hx.keep b hb hn
    · intro i blk b base hg hm hb
      rw [H.get_put] at hg
      split at hg
      · rename_i e'; subst e'; rw [Mu.add_same] at hm; cases hm
        have := hx.size; omega
      · rename_i e'; rw [Mu.add_other _ _ e'] at hm; exact hx.img i blk b base hg hm hb
    · intro i hi
      rw [Mu.add_other _ _ (by omega)]
      exact hx.old i hi
end Go.Eng

/-
  ENGINE, part 17i: the run in the order of the text, taken apart. Own work.
-/
namespace Go.Eng
open Go

/-- what one operation does to the state of a drawn region's evaluation -/
def DStep (Q : Orc) (base : Nat) (o : Op) (cl : Cl) (d d' : Ds) (v : V) : Prop :=
  d'.T = putT d.T o.dst v ∧ match wanted d.T o.guard, cl with
    | false, .B abs => v = undefV ∧ d'.hb = addP base d.pend abs d.hb ∧ d'.hist = d'.hb :: d.hist ∧ d'.pend = d.pend ∧ d'.chk = d.chk
    | false, _ => v = undefV ∧ d'.hb = d.hb ∧ d'.hist = d.hist ∧ d'.pend = d.pend ∧ d'.chk = d.chk
    | true, .L => (∃ h, Eng.step o.a Q d.T d.hb = some (v, h)) ∧ d'.hb = d.hb ∧ d'.hist = d.hist ∧ d'.pend = d.pend ∧ d'.chk = d.chk
    | true, .R vis js => (∃ h, Eng.step o.a Q d.T (addP base d.pend vis d.hb) = some (v, h)) ∧ d'.hb = d.hb ∧ d'.hist = d.hist ∧ d'.pend = d.pend ∧ d'.chk = (o.a, d.T, js, v) :: d.chk
    | true, .Al slot => (∃ h b, Eng.step o.a Q d.T ⟨.e, base + slot⟩ = some (v, h) ∧ h.get (base + slot) = some b ∧ d'.pend = (slot, b) :: d.pend) ∧ d'.hb = d.hb ∧ d'.hist = d.hist ∧ d'.chk = d.chk
    | true, .B abs => Eng.step o.a Q d.T (addP base d.pend abs d.hb) = some (v, d'.hb) ∧ d'.hist = d'.hb :: d.hist ∧ d'.pend = d.pend ∧ d'.chk = d.chk

theorem evD1_step {Q : Orc} {base : Nat} {o : Op} {cl : Cl} {d d' : Ds} (h : evD1 Q base o cl d = some d') : ∃ v, DStep Q base o cl d d' v := by
  unfold evD1 at h
  unfold DStep
  cases hw : wanted d.T o.guard with
  | false =>
    rw [hw] at h
    refine ⟨undefV, ?_⟩
    cases cl <;> (cases h; exact ⟨rfl, rfl, rfl, rfl, rfl, rfl⟩)
  | true =>
    rw [hw] at h
    cases cl with
    | L =>
      simp only [forceV_eq] at h
      cases hs : Eng.step o.a Q d.T d.hb with
      | none => rw [hs] at h; cases h
      | some p => obtain ⟨v, h1⟩ := p; rw [hs] at h; cases h; exact ⟨v, rfl, ⟨h1, rfl⟩, rfl, rfl, rfl, rfl⟩
    | R vis js =>
      simp only [forceV_eq] at h
      cases hs : Eng.step o.a Q d.T (addP base d.pend vis d.hb) with
      | none => rw [hs] at h; cases h
      | some p => obtain ⟨v, h1⟩ := p; rw [hs] at h; cases h; exact ⟨v, rfl, ⟨h1, hs⟩, rfl, rfl, rfl, rfl⟩
    | Al slot =>
      simp only at h
      cases hs : Eng.step o.a Q d.T ⟨.e, base + slot⟩ with
      | none => rw [hs] at h; cases h
      | some p =>
        obtain ⟨v, h1⟩ := p
        rw [hs] at h
        simp only at h
        cases hb : h1.get (base + slot) with
        | none => rw [hb] at h; cases h
        | some b => rw [hb] at h; cases h; exact ⟨v, rfl, ⟨h1, b, hs, hb, rfl⟩, rfl, rfl, rfl⟩
    | B abs =>
      simp only [forceV_eq] at h
      cases hs : Eng.step o.a Q d.T (addP base d.pend abs d.hb) with
      | none => rw [hs] at h; cases h
      | some p => obtain ⟨v, h1⟩ := p; rw [hs] at h; cases h; exact ⟨v, rfl, hs, rfl, rfl, rfl⟩

/-- the states one after the other -/
theorem evDl_states {Q : Orc} {base : Nat} : ∀ (l : List (Op × Cl)) (d0 dn : Ds), evDl Q base l d0 = some dn → ∃ D : Nat → Ds, D 0 = d0 ∧ D l.length = dn ∧ ∀ i o cl, l[i]? = some (o, cl) → ∃ v, DStep Q base o cl (D i) (D (i + 1)) v := by
  intro l
  induction l with
  | nil => intro d0 dn h; cases h; exact ⟨fun _ => d0, rfl, rfl, fun i o cl h => by cases h⟩
  | cons x l ih =>
    intro d0 dn h
    obtain ⟨o, cl⟩ := x
    simp only [evDl] at h
    cases h1 : evD1 Q base o cl d0 with
    | none => rw [h1] at h; cases h
    | some d1 =>
      rw [h1] at h
      obtain ⟨D, e0, e1, e2⟩ := ih d1 dn h
      refine ⟨fun i => match i with | 0 => d0 | i + 1 => D i, rfl, e1, fun i o' cl' hi => ?_⟩
      cases i with
      | zero => cases hi; simp only [e0]; exact evD1_step h1
      | succ i => exact e2 i o' cl' hi

/-- the temporaries at each place -/
theorem states_T {Q : Orc} {base : Nat} {l : List (Op × Cl)} {D : Nat → Ds} {v : Nat → V} {dst : Nat → Option Nat} (hd : ∀ i o cl, l[i]? = some (o, cl) → dst i = o.dst) (hs : ∀ i o cl, l[i]? = some (o, cl) → DStep Q base o cl (D i) (D (i + 1)) (v i)) :
    ∀ n, n ≤ l.length → (D n).T = TL (D 0).T dst v (List.range n).reverse := by
  intro n
  induction n with
  | zero => intro _; rfl
  | succ n ih =>
    intro hn
    rw [List.range_succ, List.reverse_append]
    have hi := List.getElem?_eq_getElem (show n < l.length by omega)
    have h1 := (hs n l[n].1 l[n].2 hi).1
    rw [h1, ih (by omega)]
    have e1 : TL (D 0).T dst v ([n].reverse ++ (List.range n).reverse) = putT (TL (D 0).T dst v (List.range n).reverse) (dst n) (v n) := rfl
    rw [e1, hd n _ _ hi]
    rfl
end Go.Eng

/-
  ENGINE, part 17j: lists of places; blocks laid beside a heap. Own work.
-/
namespace Go.Eng
open Go

/-! ### places of a class -/
theorem mem_posOf {cls : List Nat} {k i : Nat} : i ∈ posOf cls k ↔ cls[i]? = some k := by
  unfold posOf
  simp only [List.mem_map, List.mem_filter, Prod.exists]
  constructor
  · rintro ⟨a, b, ⟨h1, h2⟩, rfl⟩
    rw [List.mem_zipIdx_iff_getElem?] at h1
    simp only at h1
    rw [h1]
    simpa using h2
  · intro h
    exact ⟨k, i, ⟨List.mem_zipIdx_iff_getElem?.2 h, by simp⟩, rfl⟩

theorem zipIdx_sorted {α : Type} : ∀ (l : List α) (n : Nat), (l.zipIdx n).Pairwise (fun x y => x.2 < y.2) := by
  intro l
  induction l with
  | nil => intro n; exact .nil
  | cons a l ih =>
    intro n
    rw [List.zipIdx_cons, List.pairwise_cons]
    refine ⟨fun x hx => ?_, ih (n + 1)⟩
    have := List.le_snd_of_mem_zipIdx hx
    omega

theorem posOf_sorted (cls : List Nat) (k : Nat) : (posOf cls k).Pairwise (· < ·) := by
  unfold posOf
  rw [List.pairwise_map]
  exact (zipIdx_sorted cls 0).filter _

/-- how many of them stand ahead of a place -/
def cnt (bs : List Nat) (i : Nat) : Nat := (bs.filter (· < i)).length

theorem cnt_zero (bs : List Nat) : cnt bs 0 = 0 := by
  unfold cnt
  rw [List.filter_eq_nil_iff.2 (by intro a _; simp)]
  rfl

theorem sorted_get : ∀ {bs : List Nat}, bs.Pairwise (· < ·) → ∀ {i}, i ∈ bs → bs[cnt bs i]? = some i := by
  intro bs
  induction bs with
  | nil => intro _ i h; cases h
  | cons b bs ih =>
    intro hs i hi
    rw [List.pairwise_cons] at hs
    rcases List.mem_cons.1 hi with rfl | hi'
    · have : cnt (i :: bs) i = 0 := by
        unfold cnt
        rw [List.filter_eq_nil_iff.2]
        · rfl
        · intro a ha
          rcases List.mem_cons.1 ha with rfl | ha
          · simp
          · have := hs.1 a ha; simp; omega
      rw [this]; rfl
    · have hlt := hs.1 i hi'
      have : cnt (b :: bs) i = cnt bs i + 1 := by
        unfold cnt
        rw [List.filter_cons_of_pos (by simpa using hlt)]
        rfl
      rw [this, List.getElem?_cons_succ]
      exact ih hs.2 hi'

theorem cnt_le (bs : List Nat) (i : Nat) : cnt bs i ≤ bs.length := List.length_filter_le _ _

theorem cnt_succ_mem {bs : List Nat} (hs : bs.Pairwise (· < ·)) {i : Nat} (hi : i ∈ bs) : cnt bs (i + 1) = cnt bs i + 1 := by
  induction bs with
  | nil => cases hi
  | cons b bs ih =>
    rw [List.pairwise_cons] at hs
    rcases List.mem_cons.1 hi with rfl | hi'
    · unfold cnt
      rw [List.filter_cons_of_pos (by simp), List.filter_cons_of_neg (by simp)]
      rw [List.filter_eq_nil_iff.2, List.filter_eq_nil_iff.2]
      · rfl
      · intro a ha; have := hs.1 a ha; simp; omega
      · intro a ha; have := hs.1 a ha; simp; omega
    · have hlt := hs.1 i hi'
      have := ih hs.2 hi'
      unfold cnt at *
      rw [List.filter_cons_of_pos (by simp; omega), List.filter_cons_of_pos (by simp; omega), List.length_cons, List.length_cons, this]

theorem cnt_succ_not {bs : List Nat} {i : Nat} (hi : i ∉ bs) : cnt bs (i + 1) = cnt bs i := by
  unfold cnt
  congr 1
  apply List.filter_congr
  intro x hx
  have : x ≠ i := fun e => hi (e ▸ hx)
  simp; omega

theorem cnt_all {bs : List Nat} {n : Nat} (h : ∀ b ∈ bs, b < n) : cnt bs n = bs.length := by
  unfold cnt
  rw [List.filter_eq_self.2]
  intro a ha; simpa using h a ha

/-- the first ones are those that stand ahead -/
theorem take_cnt {bs : List Nat} (hs : bs.Pairwise (· < ·)) (i : Nat) : ∀ b, b ∈ bs.take (cnt bs i) ↔ b ∈ bs ∧ b < i := by
  induction bs with
  | nil => intro b; simp
  | cons c bs ih =>
    intro b
    rw [List.pairwise_cons] at hs
    by_cases hc : c < i
    · have : cnt (c :: bs) i = cnt bs i + 1 := by
        unfold cnt
        rw [List.filter_cons_of_pos (by simpa using hc)]
        rfl
      rw [this, List.take_succ_cons, List.mem_cons, List.mem_cons, ih hs.2]
      constructor
      · rintro (rfl | ⟨h1, h2⟩)
        · exact ⟨.inl rfl, hc⟩
        · exact ⟨.inr h1, h2⟩
      · rintro ⟨rfl | h1, h2⟩
        · exact .inl rfl
        · exact .inr ⟨h1, h2⟩
    · have : cnt (c :: bs) i = 0 := by
        unfold cnt
        rw [List.filter_eq_nil_iff.2]
        · rfl
        · intro a ha
          rcases List.mem_cons.1 ha with rfl | ha
          · simpa using hc
          · have := hs.1 a ha; simp; omega
      rw [this]
      simp only [List.take_zero, List.not_mem_nil, false_iff, not_and, List.mem_cons]
      rintro (rfl | h)
      · exact hc
      · have := hs.1 b h; omega

theorem take_eq_cnt {bs : List Nat} (hs : bs.Pairwise (· < ·)) {k i : Nat} (hk : k ≤ bs.length) (h : ∀ b ∈ bs, b ∈ bs.take k ↔ b < i) : k = cnt bs i := by
  have h1 : bs.take k = bs.take (cnt bs i) := by
    have e : ∀ b, b ∈ bs.take k ↔ b ∈ bs.take (cnt bs i) := by
      intro b
      rw [take_cnt hs]
      constructor
      · intro hb; exact ⟨List.mem_of_mem_take hb, (h b (List.mem_of_mem_take hb)).1 hb⟩
      · rintro ⟨hb, hlt⟩; exact (h b hb).2 hlt
    have := desc_eq (bs.take k).reverse (bs.take (cnt bs i)).reverse (by rw [List.pairwise_reverse]; exact hs.sublist (List.take_sublist _ _)) (by rw [List.pairwise_reverse]; exact hs.sublist (List.take_sublist _ _))
      (fun x => by rw [List.mem_reverse, List.mem_reverse]; exact e x)
    exact List.reverse_inj.1 this
  have := congrArg List.length h1
  rw [List.length_take, List.length_take] at this
  have := cnt_le bs i
  omega

theorem take_succ_mem {bs : List Nat} {k i : Nat} (h : bs[k]? = some i) (b : Nat) : b ∈ bs.take (k + 1) ↔ b ∈ bs.take k ∨ b = i := by
  rw [List.take_add_one, h]; simp

/-! ### slots -/
/-- slot s belongs to place a -/
theorem slot_iff {as : List Nat} {a s : Nat} : (a, s) ∈ as.zipIdx ↔ as[s]? = some a := List.mem_zipIdx_iff_getElem?

theorem slot_inj {as : List Nat} (hs : as.Pairwise (· < ·)) {a s s' : Nat} (h : as[s]? = some a) (h' : as[s']? = some a) : s = s' := by
  rcases Nat.lt_trichotomy s s' with hlt | heq | hgt
  · have h1 := (List.getElem?_eq_some_iff.1 h); have h2 := (List.getElem?_eq_some_iff.1 h')
    have := List.pairwise_iff_getElem.1 hs s s' h1.1 h2.1 hlt
    rw [h1.2, h2.2] at this; omega
  · exact heq
  · have h1 := (List.getElem?_eq_some_iff.1 h); have h2 := (List.getElem?_eq_some_iff.1 h')
    have := List.pairwise_iff_getElem.1 hs s' s h2.1 h1.1 hgt
    rw [h1.2, h2.2] at this; omega

/-- the slots that are not taken in when k of bs are done -/
def Free (bs ms as : List Nat) (k a s : Nat) : Prop := as[s]? = some a ∧ ∀ b ∈ bs.take k, ahead ms a b = false

theorem free_iff {bs ms as : List Nat} {k a s : Nat} : (a, s) ∈ (as.zipIdx.filter fun x => !(bs.take k).any fun b => (ms.getD b 0).testBit x.1) ↔ Free bs ms as k a s := by
  rw [List.mem_filter, slot_iff]
  unfold Free ahead
  simp [List.any_eq_false]

theorem find_slot {as : List Nat} (hs : as.Pairwise (· < ·)) {a s : Nat} (h : as[s]? = some a) : ((as.zipIdx.find? (·.1 == a)).map (·.2)).getD 0 = s := by
  cases hf : as.zipIdx.find? (·.1 == a) with
  | none =>
    rw [List.find?_eq_none] at hf
    exact absurd (hf (a, s) (slot_iff.2 h)) (by simp)
  | some x =>
    obtain ⟨a', s'⟩ := x
    have h1 := List.find?_some hf
    have h2 := List.mem_of_find?_eq_some hf
    simp only [beq_iff_eq] at h1
    subst h1
    exact slot_inj hs (slot_iff.1 h2) h

/-! ### blocks laid beside a heap -/
theorem addP_next (base : Nat) (p : List (Nat × Blk)) : ∀ (L : List Nat) (h : H), (addP base p L h).next = h.next := by
  intro L
  induction L with
  | nil => intro h; rfl
  | cons s L ih =>
    intro h
    simp only [addP]
    rw [ih]
    split <;> rfl

theorem addP_not (base : Nat) (p : List (Nat × Blk)) {x : Nat} : ∀ (L : List Nat) (h : H), (∀ s ∈ L, x = base + s → lookP s p = none) → (addP base p L h).get x = h.get x := by
  intro L
  induction L with
  | nil => intro h _; rfl
  | cons s L ih =>
    intro h hn
    simp only [addP]
    rw [ih _ (fun s hs => hn s (List.mem_cons_of_mem _ hs))]
    split
    · rename_i b hb
      rw [H.get_put]
      split
      · rename_i e
        rw [hn s (List.mem_cons_self ..) e.symm] at hb; cases hb
      · rfl
    · rfl

theorem addP_mem (base : Nat) (p : List (Nat × Blk)) {s : Nat} {b : Blk} (hb : lookP s p = some b) : ∀ (L : List Nat) (h : H), s ∈ L → (addP base p L h).get (base + s) = some b := by
  intro L
  induction L with
  | nil => intro h hs; cases hs
  | cons s' L ih =>
    intro h hs
    simp only [addP]
    by_cases hin : s ∈ L
    · exact ih _ hin
    · rcases List.mem_cons.1 hs with rfl | hs
      · rw [addP_not _ _ _ _ (fun s' hs' e => by
          have : s = s' := by omega
          subst this; exact absurd hs' hin), hb]
        rw [H.get_put, if_pos rfl]
      · exact absurd hs hin

theorem addP_congr (base : Nat) {p p' : List (Nat × Blk)} : ∀ (L : List Nat) (h : H), (∀ s ∈ L, lookP s p = lookP s p') → addP base p L h = addP base p' L h := by
  intro L
  induction L with
  | nil => intro h _; rfl
  | cons s L ih =>
    intro h hl
    simp only [addP]
    rw [hl s (List.mem_cons_self ..)]
    exact ih _ (fun s hs => hl s (List.mem_cons_of_mem _ hs))

theorem lookP_cons (i s : Nat) (b : Blk) (p : List (Nat × Blk)) : lookP i ((s, b) :: p) = if i = s then some b else lookP i p := by
  simp only [lookP]
  cases h : Nat.beq i s with
  | true => rw [if_pos (Nat.eq_of_beq_eq_true h)]; rfl
  | false => rw [if_neg (Nat.ne_of_beq_eq_false h)]; rfl

theorem nthH_eq : ∀ (l : List H) (n : Nat), nthH l n = l[n]? := by
  intro l
  induction l with
  | nil => intro n; rfl
  | cons h l ih =>
    intro n
    cases n with
    | zero => rfl
    | succ n => exact ih n

/-! ### the check of what was read -/
theorem okR_get {Q : Orc} {base : Nat} {d : Ds} {a : A} {T : Tr V} {v : V} : ∀ {js : List (Nat × List Nat)}, okR Q base d a T v js = true → ∀ j vis, (j, vis) ∈ js →
    ∃ h h', nthH d.hist j = some h ∧ Eng.step a Q T (addP base d.pend vis h) = some (v, h') := by
  intro js
  induction js with
  | nil => intro _ j vis h; cases h
  | cons x r ih =>
    intro h j vis hm
    obtain ⟨j0, vis0⟩ := x
    simp only [okR] at h
    cases h1 : nthH d.hist j0 with
    | none => rw [h1] at h; cases h
    | some hh =>
      rw [h1] at h
      simp only at h
      cases h2 : Eng.step a Q T (addP base d.pend vis0 hh) with
      | none => rw [h2] at h; cases h
      | some p =>
        obtain ⟨v', h'⟩ := p
        rw [h2] at h
        simp only [Bool.and_eq_true] at h
        rcases List.mem_cons.1 hm with e | hm
        · cases e
          exact ⟨hh, h', h1, by rw [h2, V.beq_true _ _ h.1]⟩
        · exact ih h.2 j vis hm

theorem okRs_get {Q : Orc} {base : Nat} {d : Ds} : ∀ {l : List (A × Tr V × List (Nat × List Nat) × V)}, okRs Q base d l = true → ∀ a T js v, (a, T, js, v) ∈ l → okR Q base d a T v js = true := by
  intro l
  induction l with
  | nil => intro _ a T js v h; cases h
  | cons x r ih =>
    intro h a T js v hm
    obtain ⟨a0, T0, js0, v0⟩ := x
    simp only [okRs, Bool.and_eq_true] at h
    rcases List.mem_cons.1 hm with e | hm
    · cases e; exact h.1
    · exact ih h.2 a T js v hm
end Go.Eng

/-
  ENGINE, part 17k: the run in the order of the text, as a whole. Own work.
-/
namespace Go.Eng
open Go

structure TRun (Q : Orc) (base : Nat) (tr : List Op) (cls ms : List Nat) (D : Nat → Ds) (v : Nat → V) : Prop where
  hcls : cls = tr.map (fun o => clsA o.a)
  st : ∀ i o, tr[i]? = some o → DStep Q base o (clOf cls ms i) (D i) (D (i + 1)) (v i)
  pend0 : (D 0).pend = []
  hist0 : (D 0).hist = [(D 0).hb]

/-- the heap behind j operations of class 3 -/
def hAt (D : Nat → Ds) (bs : List Nat) : Nat → H
  | 0 => (D 0).hb
  | j + 1 => (D (bs.getD j 0 + 1)).hb

theorem clsA_le (a : A) : clsA a = 0 ∨ clsA a = 1 ∨ clsA a = 2 ∨ clsA a = 3 := by
  cases a <;> (try (simp [clsA]; done))
  rename_i op e x y
  cases e <;> (try (simp [clsA]; done))
  rename_i k
  cases k <;> simp [clsA]

/-- the slots that an operation sees when k of bs are done -/
def visOf (bs ms as : List Nat) (i k : Nat) : List Nat := ((as.zipIdx.filter fun x => !(bs.take k).any fun b => (ms.getD b 0).testBit x.1).filter fun x => (ms.getD i 0).testBit x.1).map (·.2)

theorem mem_visOf {bs ms as : List Nat} {i k s : Nat} : s ∈ visOf bs ms as i k ↔ ∃ a, Free bs ms as k a s ∧ ahead ms a i = true := by
  unfold visOf
  rw [List.mem_map]
  constructor
  · rintro ⟨⟨a, s'⟩, h, rfl⟩
    rw [List.mem_filter] at h
    exact ⟨a, free_iff.1 h.1, h.2⟩
  · rintro ⟨a, h1, h2⟩
    exact ⟨(a, s), List.mem_filter.2 ⟨free_iff.2 h1, h2⟩, rfl⟩

def jsOf (bs ms as : List Nat) (i : Nat) : List (Nat × List Nat) :=
  ((List.range (bs.length + 1)).filter fun j => decide ((bs.filter fun b => (ms.getD i 0).testBit b).length ≤ j) && decide (j ≤ bs.length - (bs.filter fun b => (ms.getD b 0).testBit i).length) && j != cnt bs i).map fun j => (bs.length - j, visOf bs ms as i j)

section
variable {cls ms : List Nat} {i : Nat}
theorem clOf_L (h : cls[i]? = some 0) : clOf cls ms i = .L := by
  have : cls.getD i 0 = 0 := by rw [List.getD_eq_getElem?_getD, h]; rfl
  unfold clOf; simp only [this]
theorem clOf_R (h : cls[i]? = some 1) : clOf cls ms i = .R (visOf (posOf cls 3) ms (posOf cls 2) i (cnt (posOf cls 3) i)) (jsOf (posOf cls 3) ms (posOf cls 2) i) := by
  have : cls.getD i 0 = 1 := by rw [List.getD_eq_getElem?_getD, h]; rfl
  unfold clOf; simp only [this]; rfl
theorem clOf_A (h : cls[i]? = some 2) {s : Nat} (hs : (posOf cls 2)[s]? = some i) : clOf cls ms i = .Al s := by
  have : cls.getD i 0 = 2 := by rw [List.getD_eq_getElem?_getD, h]; rfl
  unfold clOf; simp only [this]
  have := find_slot (posOf_sorted cls 2) hs
  rw [this]
theorem clOf_B (h : cls[i]? = some 3) : clOf cls ms i = .B (visOf (posOf cls 3) ms (posOf cls 2) i (cnt (posOf cls 3) i)) := by
  have : cls.getD i 0 = 3 := by rw [List.getD_eq_getElem?_getD, h]; rfl
  unfold clOf; simp only [this]; rfl
end

theorem DStep.hbhist {Q : Orc} {base : Nat} {o : Op} {cl : Cl} {d d' : Ds} {v : V} (h : DStep Q base o cl d d' v) : (∀ abs, cl = .B abs → d'.hist = d'.hb :: d.hist) ∧ ((∀ abs, cl ≠ .B abs) → d'.hb = d.hb ∧ d'.hist = d.hist) := by
  obtain ⟨_, h⟩ := h
  constructor
  · rintro abs rfl
    cases hw : wanted d.T o.guard <;> rw [hw] at h
    · exact h.2.2.1
    · exact h.2.1
  · intro hb
    cases hw : wanted d.T o.guard <;> rw [hw] at h <;> cases cl <;> first | exact absurd rfl (hb _) | exact ⟨h.2.1, h.2.2.1⟩

theorem DStep.pend {Q : Orc} {base : Nat} {o : Op} {cl : Cl} {d d' : Ds} {v : V} (h : DStep Q base o cl d d' v) (s : Nat) (hs : cl ≠ .Al s) : lookP s d'.pend = lookP s d.pend := by
  obtain ⟨_, h⟩ := h
  cases hw : wanted d.T o.guard <;> rw [hw] at h <;> cases cl <;> simp only at h
  · rw [h.2.2.2.1]
  · rw [h.2.2.2.1]
  · rw [h.2.2.2.1]
  · rw [h.2.2.2.1]
  · rw [h.2.2.2.1]
  · rw [h.2.2.2.1]
  · obtain ⟨⟨_, b, _, _, hp⟩, _⟩ := h
    rw [hp, lookP_cons, if_neg (by rintro rfl; exact hs rfl)]
  · rw [h.2.2.1]

theorem DStep.chk {Q : Orc} {base : Nat} {o : Op} {cl : Cl} {d d' : Ds} {v : V} (h : DStep Q base o cl d d' v) : ∀ x ∈ d.chk, x ∈ d'.chk := by
  obtain ⟨_, h⟩ := h
  intro x hx
  cases hw : wanted d.T o.guard <;> rw [hw] at h <;> cases cl <;> simp only at h
  · rw [h.2.2.2.2]; exact hx
  · rw [h.2.2.2.2]; exact hx
  · rw [h.2.2.2.2]; exact hx
  · rw [h.2.2.2.2]; exact hx
  · rw [h.2.2.2.2]; exact hx
  · rw [h.2.2.2.2]; exact List.mem_cons_of_mem _ hx
  · rw [h.2.2.2]; exact hx
  · rw [h.2.2.2]; exact hx

section
variable {Q : Orc} {base : Nat} {tr : List Op} {cls ms : List Nat} {D : Nat → Ds} {v : Nat → V}

theorem TRun.cl (R : TRun Q base tr cls ms D v) {i : Nat} {o : Op} (h : tr[i]? = some o) : cls[i]? = some (clsA o.a) := by rw [R.hcls, List.getElem?_map, h]; rfl
theorem TRun.op (R : TRun Q base tr cls ms D v) {i c : Nat} (h : cls[i]? = some c) : ∃ o, tr[i]? = some o ∧ clsA o.a = c := by
  rw [R.hcls, List.getElem?_map] at h
  cases ho : tr[i]? with
  | none => rw [ho] at h; cases h
  | some o => rw [ho] at h; cases h; exact ⟨o, rfl, rfl⟩

theorem TRun.notB (R : TRun Q base tr cls ms D v) {i : Nat} {o : Op} (h : tr[i]? = some o) (hc : clsA o.a ≠ 3) : ∀ abs, clOf cls ms i ≠ .B abs := by
  intro abs hb
  have hcl := R.cl h
  rcases clsA_le o.a with h0 | h0 | h0 | h0
  · rw [h0] at hcl; rw [clOf_L hcl] at hb; cases hb
  · rw [h0] at hcl; rw [clOf_R hcl] at hb; cases hb
  · rw [h0] at hcl
    obtain ⟨s, hs⟩ := List.mem_iff_getElem?.1 (mem_posOf.2 hcl)
    rw [clOf_A hcl hs] at hb; cases hb
  · exact hc h0
theorem TRun.notA (R : TRun Q base tr cls ms D v) {i : Nat} {o : Op} (h : tr[i]? = some o) {s a : Nat} (hs : (posOf cls 2)[s]? = some a) (hia : i ≠ a) : clOf cls ms i ≠ .Al s := by
  intro hb
  have hcl := R.cl h
  rcases clsA_le o.a with h0 | h0 | h0 | h0
  · rw [h0] at hcl; rw [clOf_L hcl] at hb; cases hb
  · rw [h0] at hcl; rw [clOf_R hcl] at hb; cases hb
  · rw [h0] at hcl
    obtain ⟨s', hs'⟩ := List.mem_iff_getElem?.1 (mem_posOf.2 hcl)
    rw [clOf_A hcl hs'] at hb; cases hb
    rw [hs] at hs'; cases hs'; exact hia rfl
  · rw [h0] at hcl; rw [clOf_B hcl] at hb; cases hb

theorem TRun.hb (R : TRun Q base tr cls ms D v) : ∀ i, i ≤ tr.length → (D i).hb = hAt D (posOf cls 3) (cnt (posOf cls 3) i) := by
  intro i
  induction i with
  | zero => intro _; rw [cnt_zero]; rfl
  | succ i ih =>
    intro hi
    have ho := List.getElem?_eq_getElem (show i < tr.length by omega)
    generalize tr[i] = o at ho
    by_cases hc : clsA o.a = 3
    · have hm : i ∈ posOf cls 3 := mem_posOf.2 (by rw [R.cl ho, hc])
      rw [cnt_succ_mem (posOf_sorted _ _) hm]
      simp only [hAt]
      rw [List.getD_eq_getElem?_getD, sorted_get (posOf_sorted _ _) hm]
      rfl
    · have hm : i ∉ posOf cls 3 := by
        intro hm; rw [mem_posOf, R.cl ho] at hm; exact hc (Option.some.inj hm)
      rw [cnt_succ_not hm, ← ih (by omega)]
      exact ((R.st i o ho).hbhist.2 (R.notB ho hc)).1

theorem TRun.hist (R : TRun Q base tr cls ms D v) : ∀ i, i ≤ tr.length → (D i).hist = ((List.range (cnt (posOf cls 3) i + 1)).reverse).map (hAt D (posOf cls 3)) := by
  intro i
  induction i with
  | zero => intro _; rw [cnt_zero, R.hist0]; rfl
  | succ i ih =>
    intro hi
    have hhb := R.hb (i + 1) hi
    have ho := List.getElem?_eq_getElem (show i < tr.length by omega)
    generalize tr[i] = o at ho
    by_cases hc : clsA o.a = 3
    · have hm : i ∈ posOf cls 3 := mem_posOf.2 (by rw [R.cl ho, hc])
      rw [(R.st i o ho).hbhist.1 _ (clOf_B (by rw [R.cl ho, hc])), ih (by omega), hhb, cnt_succ_mem (posOf_sorted _ _) hm, List.range_succ (n := cnt (posOf cls 3) i + 1)]
      simp
    · have hm : i ∉ posOf cls 3 := by
        intro hm; rw [mem_posOf, R.cl ho] at hm; exact hc (Option.some.inj hm)
      rw [cnt_succ_not hm, ← ih (by omega)]
      exact ((R.st i o ho).hbhist.2 (R.notB ho hc)).2

theorem TRun.nth (R : TRun Q base tr cls ms D v) {n : Nat} (hn : n = tr.length) {j : Nat} (hj : j ≤ (posOf cls 3).length) : nthH (D n).hist ((posOf cls 3).length - j) = some (hAt D (posOf cls 3) j) := by
  have hall : cnt (posOf cls 3) n = (posOf cls 3).length := by
    refine cnt_all fun b hb => ?_
    rw [mem_posOf] at hb
    obtain ⟨o, ho, _⟩ := R.op hb
    rw [hn]; exact (List.getElem?_eq_some_iff.1 ho).1
  rw [nthH_eq, R.hist n (by omega), hall, List.getElem?_map, List.getElem?_reverse (by simp; omega)]
  simp only [List.length_range]
  rw [List.getElem?_range (by omega)]
  simp only [Option.map_some]
  congr 2
  omega

theorem TRun.pendLo (R : TRun Q base tr cls ms D v) {s a : Nat} (hs : (posOf cls 2)[s]? = some a) : ∀ i, i ≤ a → lookP s (D i).pend = none := by
  have ha : a < tr.length := by
    obtain ⟨o, ho, _⟩ := R.op (mem_posOf.1 (List.mem_of_getElem? hs))
    exact (List.getElem?_eq_some_iff.1 ho).1
  intro i
  induction i with
  | zero => intro _; rw [R.pend0]; rfl
  | succ i ih =>
    intro hi
    have ho := List.getElem?_eq_getElem (show i < tr.length by omega)
    generalize tr[i] = o at ho
    rw [(R.st i o ho).pend s (R.notA ho hs (by omega))]
    exact ih (by omega)
theorem TRun.pendHi (R : TRun Q base tr cls ms D v) {s a : Nat} (hs : (posOf cls 2)[s]? = some a) : ∀ i, a < i → i ≤ tr.length → lookP s (D i).pend = lookP s (D (a + 1)).pend := by
  intro i
  induction i with
  | zero => intro h; omega
  | succ i ih =>
    intro hi hl
    by_cases hia : i = a
    · subst hia; rfl
    · have ho := List.getElem?_eq_getElem (show i < tr.length by omega)
      generalize tr[i] = o at ho
      rw [(R.st i o ho).pend s (R.notA ho hs hia)]
      exact ih (by omega) (by omega)
theorem TRun.chkLe (R : TRun Q base tr cls ms D v) {i : Nat} : ∀ m, i ≤ m → m ≤ tr.length → ∀ x ∈ (D i).chk, x ∈ (D m).chk := by
  intro m
  induction m with
  | zero => intro h _ x hx; have : i = 0 := by omega
            subst this; exact hx
  | succ m ih =>
    intro hi hl x hx
    by_cases him : i = m + 1
    · subst him; exact hx
    · have ho := List.getElem?_eq_getElem (show m < tr.length by omega)
      exact (R.st m _ ho).chk x (ih (by omega) (by omega) x hx)
end
end Go.Eng

/-
  ENGINE, part 17l: a drawn region, operation by operation, in whatever order. Own work.
-/
namespace Go.Eng
open Go

variable {P : Program} {g : Gn}

/-- the blocks that stand beside the heap of the text's order -/
def InS (bs ms as : List Nat) (pn : List (Nat × Blk)) (r : List Nat) (k : Nat) (s : Nat) (b : Blk) : Prop := ∃ a, Free bs ms as k a s ∧ a ∈ r ∧ lookP s pn = some b

structure Shape (base : Nat) (bs ms as : List Nat) (pn : List (Nat × Blk)) (Hk : H) (r : List Nat) (k : Nat) (Y : H) : Prop where
  next : Y.next = Hk.next
  blk : ∀ s b, InS bs ms as pn r k s b → Y.get (base + s) = some b
  rest : ∀ x, (∀ s b, InS bs ms as pn r k s b → x ≠ base + s) → Y.get x = Hk.get x
  none : ∀ a s, Free bs ms as k a s → Hk.get (base + s) = none
  own : ∀ s b, InS bs ms as pn r k s b → b.own = true

theorem Shape.congr {base : Nat} {bs ms as : List Nat} {pn : List (Nat × Blk)} {Hk : H} {r r' : List Nat} {k : Nat} {Y : H} (h : Shape base bs ms as pn Hk r k Y) (hr : ∀ s b, InS bs ms as pn r' k s b ↔ InS bs ms as pn r k s b) :
    Shape base bs ms as pn Hk r' k Y :=
  ⟨h.next, fun s b hs => h.blk s b ((hr s b).1 hs), fun x hx => h.rest x fun s b hs => hx s b ((hr s b).2 hs), h.none, fun s b hs => h.own s b ((hr s b).1 hs)⟩

theorem Shape.vis {base : Nat} {bs ms as : List Nat} {pn : List (Nat × Blk)} {Hk : H} {r : List Nat} {k : Nat} {Y : H} (h : Shape base bs ms as pn Hk r k Y) {i : Nat} (hi : ∀ a s, Free bs ms as k a s → ahead ms a i = true → a ∈ r) :
    (addP base pn (visOf bs ms as i k) Hk).next = Y.next ∧ (∀ x b, (addP base pn (visOf bs ms as i k) Hk).get x = some b → Y.get x = some b) ∧
    (∀ a s, Free bs ms as k a s → ahead ms a i = false → (addP base pn (visOf bs ms as i k) Hk).get (base + s) = Option.none) := by
  refine ⟨by rw [addP_next, h.next], ?_, ?_⟩
  · intro x b hx
    by_cases hs : ∃ s ∈ visOf bs ms as i k, x = base + s ∧ ∃ b0, lookP s pn = some b0
    · obtain ⟨s, h1, rfl, b0, h2⟩ := hs
      rw [addP_mem base pn h2 _ _ h1] at hx
      obtain ⟨a, h3, h4⟩ := mem_visOf.1 h1
      rw [h.blk s b0 ⟨a, h3, hi a s h3 h4, h2⟩]; exact hx
    · rw [addP_not base pn _ _ (fun s h1 h2 => by
        cases h3 : lookP s pn with
        | none => rfl
        | some b0 => exact absurd ⟨s, h1, h2, b0, h3⟩ hs)] at hx
      rw [h.rest x]; exact hx
      rintro s b1 ⟨a, h1, _⟩ rfl
      rw [h.none a s h1] at hx; cases hx
  · intro a s h1 h2
    rw [addP_not base pn _ _ (fun s' h3 h4 => by
      have : s = s' := by omega
      subst this
      obtain ⟨a', h5, h6⟩ := mem_visOf.1 h3
      have : a' = a := by have e := h5.1; rw [h1.1] at e; cases e; rfl
      subst this
      rw [h2] at h6; cases h6)]
    exact h.none a s h1

theorem free_succ {bs ms as : List Nat} {k i : Nat} (h : bs[k]? = some i) {a s : Nat} : Free bs ms as (k + 1) a s ↔ Free bs ms as k a s ∧ ahead ms a i = false := by
  unfold Free
  constructor
  · rintro ⟨h1, h2⟩
    exact ⟨⟨h1, fun b hb => h2 b ((take_succ_mem h b).2 (.inl hb))⟩, h2 i ((take_succ_mem h i).2 (.inr rfl))⟩
  · rintro ⟨⟨h1, h2⟩, h3⟩
    refine ⟨h1, fun b hb => ?_⟩
    rcases (take_succ_mem h b).1 hb with hb | rfl
    · exact h2 b hb
    · exact h3

theorem filter_take_le {bs : List Nat} (hs : bs.Pairwise (· < ·)) {k : Nat} {p : Nat → Bool} (h : ∀ b ∈ bs, p b = true → b ∈ bs.take k) : (bs.filter p).length ≤ k := by
  have e : bs = bs.take k ++ bs.drop k := (List.take_append_drop k bs).symm
  have hd : (bs.drop k).filter p = [] := by
    rw [List.filter_eq_nil_iff]
    intro x hx hp
    rw [e, List.pairwise_append] at hs
    have := hs.2.2 x (h x (List.mem_of_mem_drop hx) hp) x hx
    omega
  rw [e, List.filter_append, hd, List.append_nil]
  have := List.length_filter_le p (bs.take k)
  rw [List.length_take] at this
  omega
theorem filter_drop_le {bs : List Nat} {k : Nat} {p : Nat → Bool} (h : ∀ b ∈ bs.take k, p b = false) : (bs.filter p).length ≤ bs.length - k := by
  have hd : (bs.take k).filter p = [] := by
    rw [List.filter_eq_nil_iff]
    intro x hx hp
    rw [h x hx] at hp; cases hp
  conv => lhs; rw [← List.take_append_drop k bs, List.filter_append, hd, List.nil_append]
  have := List.length_filter_le p (bs.drop k)
  rw [List.length_drop] at this
  exact this

structure Ctx (P : Program) (g : Gn) (Q : Orc) (N base : Nat) (ops : Array Oper) (tr : List Op) (cls ms : List Nat) (dst : Nat → Option Nat) (D : Nat → Ds) (v : Nat → V) (T0 : Tr V) : Prop where
  q : QOk P g Q
  lt : ∀ o ∈ ops.toList, dstOk N o.dst = true
  htr : tr = ops.toList.map (trOp P g.f ops)
  hms : ms = masks ops.toList []
  hdst : dst = fun i => (tr[i]?).bind (·.dst)
  run : TRun Q base tr cls ms D v
  chk : okRs Q base (D tr.length) (D tr.length).chk = true
  edge : ∀ (i : Nat) (o : Oper), ops[i]? = some o → ∀ e ∈ o.after, Region.binds .any e = true → e.on < i
  names : ∀ i d, dst i = some d → ∀ j o, tr[j]? = some o → (o.dst = some d ∨ d ∈ namesR o) → i = j ∨ cmp ms i j = true
  bs : ∀ i j, i ∈ posOf cls 3 → j ∈ posOf cls 3 → i = j ∨ cmp ms i j = true
  hT : ∀ i, i ≤ tr.length → (D i).T = TL T0 dst v (List.range i).reverse

structure Inv (P : Program) (g : Gn) (N base : Nat) (tr : List Op) (cls ms : List Nat) (dst : Nat → Option Nat) (D : Nat → Ds) (v : Nat → V) (T0 : Tr V) (μ0 : Mu) (h0 : H) (w0 : World) (Dl : List Nat)
    (r : List Nat) (k : Nat) (μ : Mu) (a : Act) (w : World) (Y : H) : Prop where
  kle : k ≤ (posOf cls 3).length
  kdone : ∀ b ∈ posOf cls 3, b ∈ (posOf cls 3).take k ↔ b ∈ r
  shape : Shape base (posOf cls 3) ms (posOf cls 2) (D tr.length).pend (hAt D (posOf cls 3) k) r k Y
  ge : base + (posOf cls 2).length ≤ Y.next
  mu : ∀ a s, (posOf cls 2)[s]? = some a → (a ∉ r ∨ lookP s (D tr.length).pend = none) → μ (base + s) = none
  heap : HR P g μ Y w
  ext : Ext μ0 h0 w0 μ Y w
  tmps : TR g μ (szOf w) (TL T0 dst v r) a.tmps
  size : a.tmps.size = N
  defers : DR μ Dl a.defers
  base0 : h0.next ≤ base

section
variable {Q : Orc} {N base : Nat} {ops : Array Oper} {tr : List Op} {cls ms : List Nat} {dst : Nat → Option Nat} {D : Nat → Ds} {v : Nat → V} {T0 : Tr V}

theorem Ctx.len (X : Ctx P g Q N base ops tr cls ms dst D v T0) : tr.length = ops.size := by rw [X.htr]; simp
theorem Ctx.op (X : Ctx P g Q N base ops tr cls ms dst D v T0) {i : Nat} {o : Oper} (h : ops[i]? = some o) : tr[i]? = some (trOp P g.f ops o) := by
  rw [X.htr, List.getElem?_map, Array.getElem?_toList, h]; rfl

/-- in any order an operation finds what it finds in the text's -/
theorem Ctx.agree (X : Ctx P g Q N base ops tr cls ms dst D v T0) {i : Nat} {t : Op} (ht : tr[i]? = some t) {r : List Nat} (hr : Ready .any ops (i :: r)) (hn : (i :: r).Nodup) : ∀ d ∈ namesR t, (TL T0 dst v r).get d = (D i).T.get d := by
  intro d hd
  have hi : i < tr.length := (List.getElem?_eq_some_iff.1 ht).1
  rw [X.hT i (by omega)]
  refine TL_agree X.edge hr hn ?_ ?_
  · intro a b ha hb
    have hb' := hb
    rw [X.hdst] at hb'
    simp only [Option.bind_eq_some_iff] at hb'
    obtain ⟨o, ho, hod⟩ := hb'
    rw [← X.hms]
    exact X.names a d ha b o ho (.inl hod)
  · intro a ha
    rw [← X.hms]
    exact X.names a d ha i t ht (.inr hd)

theorem Ctx.wanted (X : Ctx P g Q N base ops tr cls ms dst D v T0) {i : Nat} {t : Op} (ht : tr[i]? = some t) {r : List Nat} (hr : Ready .any ops (i :: r)) (hn : (i :: r).Nodup) : Eng.wanted (TL T0 dst v r) t.guard = Eng.wanted (D i).T t.guard := by
  cases hg : t.guard with
  | none => rfl
  | some p =>
    obtain ⟨d, w'⟩ := p
    have := X.agree ht hr hn d (by unfold namesR; rw [hg]; simp)
    simp only [Eng.wanted, isTrueAt, this]
theorem Ctx.step (X : Ctx P g Q N base ops tr cls ms dst D v T0) {i : Nat} {t : Op} (ht : tr[i]? = some t) {r : List Nat} (hr : Ready .any ops (i :: r)) (hn : (i :: r).Nodup) (h : H) : Eng.step t.a Q (TL T0 dst v r) h = Eng.step t.a Q (D i).T h := by
  refine stepT _ _ _ fun d hd => X.agree ht hr hn d ?_
  unfold namesR
  exact List.mem_append_right _ hd

/-- what the machine asks of the guard -/
theorem Ctx.want (X : Ctx P g Q N base ops tr cls ms dst D v T0) {i : Nat} {o : Oper} (ho : ops[i]? = some o) {μ : Mu} {w : World} {T : Tr V} {a : Act} (hT : TR g μ (szOf w) T a.tmps) (hsz : a.tmps.size = N) (hb : (trOp P g.f ops o).a ≠ .bad "" ∨ Eng.wanted T (trOp P g.f ops o).guard = false) :
    Region.wanted o (yielded ops a.tmps) = Eng.wanted T (trOp P g.f ops o).guard := by
  obtain ⟨_, _, hguard⟩ := trOp_dst (P := P) (g := g) ops o
  rcases hguard with ⟨h1, h2⟩ | ⟨j, w', d, h1, h2, h3⟩ | ⟨h1, h2⟩
  · rw [h2]; simp [Region.wanted, h1, Eng.wanted]
  · rw [h3]; exact wanted_ok hT h1 h2 (by rw [hsz]; exact dst_lt X.lt h2)
  · rcases hb with hb | hb
    · exact absurd h1 hb
    · rw [h2] at hb; cases hb

theorem Ctx.lookEq (X : Ctx P g Q N base ops tr cls ms dst D v T0) {s a i : Nat} (hs : (posOf cls 2)[s]? = some a) (hai : a < i) (hi : i ≤ tr.length) : lookP s (D i).pend = lookP s (D tr.length).pend := by
  rw [X.run.pendHi hs i hai hi, X.run.pendHi hs tr.length (by omega) (Nat.le_refl _)]

theorem Ctx.ahead_done (X : Ctx P g Q N base ops tr cls ms dst D v T0) {a i : Nat} (h : ahead ms a i = true) {r : List Nat} (hr : Ready .any ops (i :: r)) : a ∈ r := by
  rw [X.hms] at h
  exact ahead_ok X.edge (i + 1) a i (by omega) h r hr
theorem Ctx.ahead_lt (X : Ctx P g Q N base ops tr cls ms dst D v T0) {a i : Nat} (h : ahead ms a i = true) : a < i := by
  rw [X.hms] at h
  exact Eng.ahead_lt X.edge (i + 1) a i (by omega) h
/-- what is done has nothing ahead that is not -/
theorem Ctx.not_ahead (X : Ctx P g Q N base ops tr cls ms dst D v T0) {i b : Nat} {r : List Nat} (hr : Ready .any ops (i :: r)) (hn : (i :: r).Nodup) (hb : b ∈ r) : ahead ms i b = false := by
  cases h : ahead ms i b with
  | false => rfl
  | true =>
    obtain ⟨s, t, rfl⟩ := List.append_of_mem hb
    have := X.ahead_done h (Ready.tail (l := s) hr.2)
    exact absurd (List.mem_append_right _ (List.mem_cons_of_mem _ this)) (List.nodup_cons.1 hn).1

variable {μ0 : Mu} {h0 : H} {w0 : World} {Dl : List Nat}

/-- an operation of class 3 is the next one of its class -/
theorem Ctx.next3 (X : Ctx P g Q N base ops tr cls ms dst D v T0) {r : List Nat} {k : Nat} {μ : Mu} {a : Act} {w : World} {Y : H} (hI : Inv P g N base tr cls ms dst D v T0 μ0 h0 w0 Dl r k μ a w Y) {i : Nat} (hi : i ∈ posOf cls 3) (hr : Ready .any ops (i :: r)) (hn : (i :: r).Nodup) :
    k = cnt (posOf cls 3) i ∧ (posOf cls 3)[k]? = some i := by
  have hk : k = cnt (posOf cls 3) i := by
    refine take_eq_cnt (posOf_sorted _ _) hI.kle fun b hb => ?_
    rw [hI.kdone b hb]
    by_cases hbi : b = i
    · subst hbi
      constructor
      · intro h; exact absurd h (List.nodup_cons.1 hn).1
      · intro h; omega
    · have := (X.bs b i hb hi).resolve_left hbi
      rw [X.hms] at this
      exact done_iff X.edge hr hn hbi this
  exact ⟨hk, by rw [hk]; exact sorted_get (posOf_sorted _ _) hi⟩

/-- the lists of places when one more is done -/
theorem Ctx.inS_other (X : Ctx P g Q N base ops tr cls ms dst D v T0) {r : List Nat} {k i : Nat} (hi : i ∉ posOf cls 2) (s : Nat) (b : Blk) : InS (posOf cls 3) ms (posOf cls 2) (D tr.length).pend (i :: r) k s b ↔ InS (posOf cls 3) ms (posOf cls 2) (D tr.length).pend r k s b := by
  constructor
  · rintro ⟨a, h1, h2, h3⟩
    rcases List.mem_cons.1 h2 with rfl | h2
    · exact absurd (List.mem_of_getElem? h1.1) hi
    · exact ⟨a, h1, h2, h3⟩
  · rintro ⟨a, h1, h2, h3⟩
    exact ⟨a, h1, List.mem_cons_of_mem _ h2, h3⟩

/-- what an operation reads, however many of class 3 are done -/
theorem Ctx.reads (X : Ctx P g Q N base ops tr cls ms dst D v T0) {r : List Nat} {k : Nat} {μ : Mu} {a : Act} {w : World} {Y : H} (hI : Inv P g N base tr cls ms dst D v T0 μ0 h0 w0 Dl r k μ a w Y) {i : Nat} {t : Op} (ht : tr[i]? = some t) (hc : clsA t.a = 1) (hr : Ready .any ops (i :: r)) (hn : (i :: r).Nodup)
    (hw : Eng.wanted (D i).T t.guard = true) : ∃ h', Eng.step t.a Q (D i).T (addP base (D tr.length).pend (visOf (posOf cls 3) ms (posOf cls 2) i k) (hAt D (posOf cls 3) k)) = some (v i, h') := by
  have hi : i < tr.length := (List.getElem?_eq_some_iff.1 ht).1
  have hst := (X.run.st i t ht).2
  rw [hw, clOf_R (by rw [X.run.cl ht, hc])] at hst
  obtain ⟨⟨h', hs⟩, _, _, _, hck⟩ := hst
  by_cases hk : k = cnt (posOf cls 3) i
  · refine ⟨h', ?_⟩
    rw [← hs, X.run.hb i (by omega), hk]
    congr 1
    refine addP_congr _ _ _ fun s hs => ?_
    obtain ⟨b, h1, h2⟩ := mem_visOf.1 hs
    exact (X.lookEq h1.1 (X.ahead_lt h2) (by omega)).symm
  · have hin := X.run.chkLe (i := i + 1) tr.length (by omega) (Nat.le_refl _) _ (by rw [hck]; exact List.mem_cons_self ..)
    have hok := okRs_get X.chk _ _ _ _ hin
    have hmem : ((posOf cls 3).length - k, visOf (posOf cls 3) ms (posOf cls 2) i k) ∈ jsOf (posOf cls 3) ms (posOf cls 2) i := by
      unfold jsOf
      rw [List.mem_map]
      refine ⟨k, ?_, rfl⟩
      rw [List.mem_filter]
      refine ⟨List.mem_range.2 (by have := hI.kle; omega), ?_⟩
      simp only [Bool.and_eq_true, decide_eq_true_eq, bne_iff_ne, ne_eq]
      refine ⟨⟨?_, ?_⟩, hk⟩
      · refine filter_take_le (posOf_sorted _ _) fun b hb hp => ?_
        exact (hI.kdone b hb).2 (X.ahead_done hp hr)
      · have := filter_drop_le (bs := posOf cls 3) (k := k) (p := fun b => (ms.getD b 0).testBit i) (fun b hb => by
          have := (hI.kdone b (List.mem_of_mem_take hb)).1 hb
          exact X.not_ahead hr hn this)
        have := hI.kle
        omega
    obtain ⟨h, h'', h1, h2⟩ := okR_get hok _ _ hmem
    rw [X.run.nth rfl hI.kle] at h1
    cases h1
    exact ⟨h'', h2⟩
end
end Go.Eng

/-
  ENGINE, part 17m: a drawn region: one operation, whichever is next. Own work.
-/
namespace Go.Eng
open Go

variable {P : Program} {g : Gn}

section
variable {Q : Orc} {N base : Nat} {ops : Array Oper} {tr : List Op} {cls ms : List Nat} {dst : Nat → Option Nat} {D : Nat → Ds} {v : Nat → V} {T0 : Tr V}
variable {μ0 : Mu} {h0 : H} {w0 : World} {Dl : List Nat}

theorem Ctx.dst_eq (X : Ctx P g Q N base ops tr cls ms dst D v T0) {i : Nat} {o : Oper} (ho : ops[i]? = some o) : dst i = o.dst := by
  rw [X.hdst]
  simp only [X.op ho, Option.bind_some]
  exact (trOp_dst (P := P) (g := g) ops o).1

theorem Ctx.kdone_other (X : Ctx P g Q N base ops tr cls ms dst D v T0) {r : List Nat} {k i : Nat} (h : ∀ b ∈ posOf cls 3, b ∈ (posOf cls 3).take k ↔ b ∈ r) (hi : i ∉ posOf cls 3) : ∀ b ∈ posOf cls 3, b ∈ (posOf cls 3).take k ↔ b ∈ i :: r := by
  intro b hb
  rw [h b hb, List.mem_cons]
  constructor
  · exact .inr
  · rintro (rfl | h)
    · exact absurd hb hi
    · exact h
theorem Ctx.kdone_next (X : Ctx P g Q N base ops tr cls ms dst D v T0) {r : List Nat} {k i : Nat} (h : ∀ b ∈ posOf cls 3, b ∈ (posOf cls 3).take k ↔ b ∈ r) (hk : (posOf cls 3)[k]? = some i) : ∀ b ∈ posOf cls 3, b ∈ (posOf cls 3).take (k + 1) ↔ b ∈ i :: r := by
  intro b hb
  rw [take_succ_mem hk, h b hb, List.mem_cons]
  exact Or.comm

/-- the temporaries when one more is done -/
theorem Ctx.putT (X : Ctx P g Q N base ops tr cls ms dst D v T0) {r : List Nat} {i : Nat} {o : Oper} (ho : ops[i]? = some o) {a : Act} {μ : Mu} {sz : Sz} (hT : TR g μ sz (TL T0 dst v r) a.tmps) (hsz : a.tmps.size = N) {z : Value} (hz : VR g μ sz (v i) z) :
    TR g μ sz (TL T0 dst v (i :: r)) (a.put o.dst z).tmps ∧ (a.put o.dst z).tmps.size = N ∧ (a.put o.dst z).defers = a.defers := by
  have hod : dstOk N o.dst = true := X.lt o (by rw [← Array.getElem?_toList] at ho; exact List.mem_of_getElem? ho)
  refine ⟨?_, ?_, by cases o.dst <;> rfl⟩
  · have := hT.put (d := o.dst) (by rw [hsz]; exact hod) hz
    rw [← X.dst_eq ho] at this ⊢
    exact this
  · cases o.dst <;> simp [Act.put, hsz]

/-- an operation that is not wanted -/
theorem Ctx.step_skip (X : Ctx P g Q N base ops tr cls ms dst D v T0) {r : List Nat} {k : Nat} {μ : Mu} {a : Act} {w : World} {Y : H} (hI : Inv P g N base tr cls ms dst D v T0 μ0 h0 w0 Dl r k μ a w Y) {i : Nat} {o : Oper} (ho : ops[i]? = some o) (hr : Ready .any ops (i :: r)) (hn : (i :: r).Nodup)
    (hw : Eng.wanted (D i).T (trOp P g.f ops o).guard = false) {b : Frame} {rest : List Nat} {K : List Item} {cs : List Frame} :
    ∃ k' μ' a' w' Y', Steps P (lone (b.atR a (.inRegion ops (i :: rest) :: K)) cs w) (lone (b.atR a' (.inRegion ops rest :: K)) cs w') ∧ Inv P g N base tr cls ms dst D v T0 μ0 h0 w0 Dl (i :: r) k' μ' a' w' Y' := by
  have ht := X.op ho
  have hi : i < tr.length := (List.getElem?_eq_some_iff.1 ht).1
  have hwT := (X.wanted ht hr hn).trans hw
  have hst := (X.run.st i _ ht).2
  rw [hw] at hst
  have hv : v i = undefV := by cases hcl : clOf cls ms i <;> rw [hcl] at hst <;> exact hst.1
  have hWm := (X.want ho hI.tmps hI.size (.inr hwT)).trans hwT
  obtain ⟨p1, p2, p3⟩ := X.putT ho hI.tmps hI.size (z := undef) (by rw [hv]; exact .tup _ _ .nil)
  have hstep : Steps P (lone (b.atR a (.inRegion ops (i :: rest) :: K)) cs w) (lone (b.atR (a.put o.dst undef) (.inRegion ops rest :: K)) cs w) := by
    refine .one ?_
    have := stepR_op_skip (P := P) (b := b) (a := a) (k := K) (cs := cs) (w := w) (ops := ops) (i := i) (rest := rest) (by rw [ho]; simpa using hWm)
    rw [this, ho]; rfl
  have hmu : ∀ a s, (posOf cls 2)[s]? = some a → (a ∉ i :: r ∨ lookP s (D tr.length).pend = none) → μ (base + s) = none := by
    intro a s hs hor
    refine hI.mu a s hs ?_
    rcases hor with h | h
    · exact .inl fun h' => h (List.mem_cons_of_mem _ h')
    · exact .inr h
  by_cases h3 : i ∈ posOf cls 3
  · obtain ⟨hk, hk'⟩ := X.next3 hI h3 hr hn
    have hcl : clOf cls ms i = .B (visOf (posOf cls 3) ms (posOf cls 2) i (cnt (posOf cls 3) i)) := clOf_B (mem_posOf.1 h3)
    rw [hcl] at hst
    have hHk : hAt D (posOf cls 3) (k + 1) = addP base (D tr.length).pend (visOf (posOf cls 3) ms (posOf cls 2) i k) (hAt D (posOf cls 3) k) := by
      have e1 := X.run.hb (i + 1) (by omega)
      rw [cnt_succ_mem (posOf_sorted _ _) h3, ← hk] at e1
      rw [← e1, hst.2.1, X.run.hb i (by omega), hk]
      refine addP_congr _ _ _ fun s hs => ?_
      obtain ⟨b, h1, h2⟩ := mem_visOf.1 hs
      exact X.lookEq h1.1 (X.ahead_lt h2) (by omega)
    have hlt : k < (posOf cls 3).length := (List.getElem?_eq_some_iff.1 hk').1
    have h2 : i ∉ posOf cls 2 := by intro h; rw [mem_posOf] at h h3; rw [h3] at h; cases h
    obtain ⟨s1, s2, s3⟩ := hI.shape.vis (i := i) (fun a s _ h => X.ahead_done h hr)
    have hin : ∀ s b, InS (posOf cls 3) ms (posOf cls 2) (D tr.length).pend (i :: r) (k + 1) s b → InS (posOf cls 3) ms (posOf cls 2) (D tr.length).pend r k s b := by
      rintro s b ⟨a, h4, h5, h6⟩
      rcases List.mem_cons.1 h5 with rfl | h5
      · exact absurd (List.mem_of_getElem? h4.1) h2
      · exact ⟨a, ((free_succ hk').1 h4).1, h5, h6⟩
    refine ⟨k + 1, μ, _, w, Y, hstep, ⟨by omega, X.kdone_next hI.kdone hk', ⟨?_, ?_, ?_, ?_, ?_⟩, hI.ge, hmu, hI.heap, hI.ext, p1, p2, by rw [p3]; exact hI.defers, hI.base0⟩⟩
    · rw [hHk, s1]
    · intro s b hs
      exact hI.shape.blk s b (hin s b hs)
    · intro x hx
      rw [hHk]
      cases hg : (addP base (D tr.length).pend (visOf (posOf cls 3) ms (posOf cls 2) i k) (hAt D (posOf cls 3) k)).get x with
      | some bb => exact s2 x bb hg
      | none =>
        by_cases hs : ∃ s b, InS (posOf cls 3) ms (posOf cls 2) (D tr.length).pend r k s b ∧ x = base + s
        · obtain ⟨s, b, ⟨a', h4, h5, h6⟩, rfl⟩ := hs
          cases hah : ahead ms a' i with
          | true =>
            rw [addP_mem base _ h6 _ _ (mem_visOf.2 ⟨a', h4, hah⟩)] at hg; cases hg
          | false => exact absurd rfl (hx s b ⟨a', (free_succ hk').2 ⟨h4, hah⟩, List.mem_cons_of_mem _ h5, h6⟩)
        · rw [hI.shape.rest x fun s b h4 h5 => hs ⟨s, b, h4, h5⟩]
          rw [← hg]
          symm
          refine addP_not _ _ _ _ fun s h4 h5 => ?_
          cases h6 : lookP s (D tr.length).pend with
          | none => rfl
          | some b =>
            obtain ⟨a', h7, h8⟩ := mem_visOf.1 h4
            exact absurd ⟨s, b, ⟨a', h7, X.ahead_done h8 hr, h6⟩, h5⟩ hs
    · intro a' s hf
      obtain ⟨h4, h5⟩ := (free_succ hk').1 hf
      rw [hHk]
      exact s3 a' s h4 h5
    · intro s b hs
      exact hI.shape.own s b (hin s b hs)
  · refine ⟨k, μ, _, w, Y, hstep, ⟨hI.kle, X.kdone_other hI.kdone h3, ?_, hI.ge, hmu, hI.heap, hI.ext, p1, p2, by rw [p3]; exact hI.defers, hI.base0⟩⟩
    refine hI.shape.congr fun s b => ?_
    by_cases h2 : i ∈ posOf cls 2
    · constructor
      · rintro ⟨a', h4, h5, h6⟩
        rcases List.mem_cons.1 h5 with rfl | h5
        · exfalso
          have hcl := clOf_A (ms := ms) (mem_posOf.1 h2) h4.1
          rw [hcl] at hst
          have e1 := X.run.pendHi h4.1 tr.length (by omega) (Nat.le_refl _)
          rw [hst.2.2.2.1, X.run.pendLo h4.1 a' (Nat.le_refl _), h6] at e1
          cases e1
        · exact ⟨a', h4, h5, h6⟩
      · rintro ⟨a', h4, h5, h6⟩; exact ⟨a', h4, List.mem_cons_of_mem _ h5, h6⟩
    · exact X.inS_other h2 s b

/-- an operation of class 3 -/
theorem Ctx.step_B (X : Ctx P g Q N base ops tr cls ms dst D v T0) {r : List Nat} {k : Nat} {μ : Mu} {a : Act} {w : World} {Y : H} (hI : Inv P g N base tr cls ms dst D v T0 μ0 h0 w0 Dl r k μ a w Y) {i : Nat} {o : Oper} (ho : ops[i]? = some o) (hr : Ready .any ops (i :: r)) (hn : (i :: r).Nodup)
    (hw : Eng.wanted (D i).T (trOp P g.f ops o).guard = true) (h3 : i ∈ posOf cls 3) {b : Frame} {rest : List Nat} {K : List Item} {cs : List Frame} :
    ∃ k' μ' a' w' Y', Steps P (lone (b.atR a (.inRegion ops (i :: rest) :: K)) cs w) (lone (b.atR a' (.inRegion ops rest :: K)) cs w') ∧ Inv P g N base tr cls ms dst D v T0 μ0 h0 w0 Dl (i :: r) k' μ' a' w' Y' := by
  have ht := X.op ho
  have hi : i < tr.length := (List.getElem?_eq_some_iff.1 ht).1
  have hod : dstOk N o.dst = true := X.lt o (by rw [← Array.getElem?_toList] at ho; exact List.mem_of_getElem? ho)
  have hwT := (X.wanted ht hr hn).trans hw
  have hst := (X.run.st i _ ht).2
  obtain ⟨hk, hk'⟩ := X.next3 hI h3 hr hn
  have hcl : clOf cls ms i = .B (visOf (posOf cls 3) ms (posOf cls 2) i (cnt (posOf cls 3) i)) := clOf_B (mem_posOf.1 h3)
  rw [hw, hcl] at hst
  have e1 := X.run.hb (i + 1) (by omega)
  rw [cnt_succ_mem (posOf_sorted _ _) h3, ← hk] at e1
  have hs := hst.1
  rw [X.run.hb i (by omega), ← hk, addP_congr base (p' := (D tr.length).pend) _ _ (fun s hs => by
    obtain ⟨b, h1, h2⟩ := mem_visOf.1 hs
    exact X.lookEq h1.1 (X.ahead_lt h2) (by omega)), e1, ← X.step ht hr hn] at hs
  have hlt : k < (posOf cls 3).length := (List.getElem?_eq_some_iff.1 hk').1
  have h2 : i ∉ posOf cls 2 := by intro h; rw [mem_posOf] at h h3; rw [h3] at h; cases h
  obtain ⟨s1, s2, s3⟩ := hI.shape.vis (i := i) (fun a s _ h => X.ahead_done h hr)
  have hbad : (trOp P g.f ops o).a ≠ .bad "" := by intro hb; rw [hb] at hs; cases hs
  have htA := (trOp_dst (P := P) (g := g) ops o).2.1 hbad
  have hWm := (X.want ho hI.tmps hI.size (.inl hbad)).trans hwT
  have hsub := hI.heap.sub s2 s1
  obtain ⟨μ1, w1, z, q1, q2, q3, q4⟩ := op_ok (b := b) (rest := rest) (k := K) (cs := cs) X.q (D := Dl) ⟨hsub, hI.tmps, hI.size, hI.defers⟩ htA hs ho hWm hod
  -- the blocks that stand beside it
  let E : Nat → Prop := fun x => ∃ s b, InS (posOf cls 3) ms (posOf cls 2) (D tr.length).pend (i :: r) (k + 1) s b ∧ x = base + s
  let L : List Nat := (List.range (posOf cls 2).length).filter fun s => @decide (∃ b, InS (posOf cls 3) ms (posOf cls 2) (D tr.length).pend (i :: r) (k + 1) s b) (Classical.propDecidable _)
  have hL : ∀ s, s ∈ L ↔ ∃ b, InS (posOf cls 3) ms (posOf cls 2) (D tr.length).pend (i :: r) (k + 1) s b := by
    intro s
    rw [List.mem_filter, @decide_eq_true_iff _ (Classical.propDecidable _), List.mem_range]
    constructor
    · exact fun h => h.2
    · rintro ⟨b, h⟩
      have h' := h
      obtain ⟨a', h4, _⟩ := h'
      exact ⟨(List.getElem?_eq_some_iff.1 h4.1).1, b, h⟩
  have hin : ∀ s b, InS (posOf cls 3) ms (posOf cls 2) (D tr.length).pend (i :: r) (k + 1) s b → InS (posOf cls 3) ms (posOf cls 2) (D tr.length).pend r k s b := by
    rintro s b ⟨a, h4, h5, h6⟩
    rcases List.mem_cons.1 h5 with rfl | h5
    · exact absurd (List.mem_of_getElem? h4.1) h2
    · exact ⟨a, ((free_succ hk').1 h4).1, h5, h6⟩
  have hGE : ∀ s b, InS (posOf cls 3) ms (posOf cls 2) (D tr.length).pend (i :: r) (k + 1) s b → (addP base (D tr.length).pend L (hAt D (posOf cls 3) (k + 1))).get (base + s) = some b := by
    rintro s b hsb
    obtain ⟨a', h4, h5, h6⟩ := hsb
    exact addP_mem base _ h6 _ _ ((hL s).2 ⟨b, a', h4, h5, h6⟩)
  have hGn : ∀ x, ¬ E x → (addP base (D tr.length).pend L (hAt D (posOf cls 3) (k + 1))).get x = (hAt D (posOf cls 3) (k + 1)).get x := by
    intro x hx
    refine addP_not _ _ _ _ fun s hs e => ?_
    obtain ⟨b, hb⟩ := (hL s).1 hs
    exact absurd ⟨s, b, hb, e⟩ hx
  have hEn : ∀ x, E x → (addP base (D tr.length).pend (visOf (posOf cls 3) ms (posOf cls 2) i k) (hAt D (posOf cls 3) k)).get x = none := by
    rintro x ⟨s, b, ⟨a', h4, _⟩, rfl⟩
    obtain ⟨h5, h6⟩ := (free_succ hk').1 h4
    exact s3 a' s h5 h6
  obtain ⟨f1, f2⟩ := frame hI.heap s2 s1 q2 q3 E hEn (G := addP base (D tr.length).pend L (hAt D (posOf cls 3) (k + 1)))
    (by rintro x ⟨s, b, hb, rfl⟩; rw [hGE s b hb, hI.shape.blk s b (hin s b hb)]) hGn (addP_next _ _ _ _)
  have hltY : ∀ a s, (posOf cls 2)[s]? = some a → base + s < Y.next := by
    intro a s hs
    have := (List.getElem?_eq_some_iff.1 hs).1
    have := hI.ge
    omega
  obtain ⟨p1, p2, p3⟩ := X.putT ho (hI.tmps.mono q3.mu q3.sz) hI.size q4
  refine ⟨k + 1, μ1, _, w1, _, q1, ⟨by omega, X.kdone_next hI.kdone hk', ⟨addP_next _ _ _ _, hGE, ?_, ?_, ?_⟩, ?_, ?_, f1, hI.ext.trans f2, p1, p2, by rw [p3]; exact hI.defers.mono q3.mu, hI.base0⟩⟩
  · intro x hx
    exact hGn x fun ⟨s, b, hb, e⟩ => hx s b hb e
  · intro a' s hf
    obtain ⟨h4, h5⟩ := (free_succ hk').1 hf
    cases hg : (hAt D (posOf cls 3) (k + 1)).get (base + s) with
    | none => rfl
    | some blk =>
      exfalso
      obtain ⟨bb, bx, hm1, hbr1⟩ := q2.blk _ _ hg
      by_cases hdone : a' ∈ r ∧ ∃ b, lookP s (D tr.length).pend = some b
      · obtain ⟨hin', b', hb'⟩ := hdone
        have hInS : InS (posOf cls 3) ms (posOf cls 2) (D tr.length).pend r k s b' := ⟨a', h4, hin', hb'⟩
        have hY := hI.shape.blk s b' hInS
        obtain ⟨b0, x0, hm, hbr⟩ := hI.heap.blk _ _ hY
        have := q3.mu _ _ hm
        rw [hm1] at this; cases this
        obtain ⟨i', blk', base', j1, j2, j3⟩ := q3.img _ _ _ _ hg hm1 hbr.lt
        have := hI.heap.inj _ i' _ blk' _ _ base' hY (s2 _ _ j1) (hI.shape.own s b' hInS) hm j3
        subst this
        rw [s3 a' s h4 h5] at j1; cases j1
      · have hmn : μ (base + s) = none := by
          refine hI.mu a' s h4.1 ?_
          by_cases hr' : a' ∈ r
          · right
            cases hl : lookP s (D tr.length).pend with
            | none => rfl
            | some b => exact absurd ⟨hr', b, hl⟩ hdone
          · exact .inl hr'
        have := q3.old (base + s) (by rw [s1]; exact hltY a' s h4.1)
        rw [hm1, hmn] at this; cases this
  · intro s b hs
    exact hI.shape.own s b (hin s b hs)
  · have := hI.ge
    have := f2.next
    omega
  · intro a' s hs hor
    rw [q3.old (base + s) (by rw [s1]; exact hltY a' s hs)]
    refine hI.mu a' s hs ?_
    rcases hor with h | h
    · exact .inl fun h' => h (List.mem_cons_of_mem _ h')
    · exact .inr h

/-- an operation that lays nothing and turns nothing -/
theorem Ctx.step_LR (X : Ctx P g Q N base ops tr cls ms dst D v T0) {r : List Nat} {k : Nat} {μ : Mu} {a : Act} {w : World} {Y : H} (hI : Inv P g N base tr cls ms dst D v T0 μ0 h0 w0 Dl r k μ a w Y) {i : Nat} {o : Oper} (ho : ops[i]? = some o) (hr : Ready .any ops (i :: r)) (hn : (i :: r).Nodup)
    (hw : Eng.wanted (D i).T (trOp P g.f ops o).guard = true) (hc : clsA (trOp P g.f ops o).a = 0 ∨ clsA (trOp P g.f ops o).a = 1) {b : Frame} {rest : List Nat} {K : List Item} {cs : List Frame} :
    ∃ k' μ' a' w' Y', Steps P (lone (b.atR a (.inRegion ops (i :: rest) :: K)) cs w) (lone (b.atR a' (.inRegion ops rest :: K)) cs w') ∧ Inv P g N base tr cls ms dst D v T0 μ0 h0 w0 Dl (i :: r) k' μ' a' w' Y' := by
  have ht := X.op ho
  have hi : i < tr.length := (List.getElem?_eq_some_iff.1 ht).1
  have hod : dstOk N o.dst = true := X.lt o (by rw [← Array.getElem?_toList] at ho; exact List.mem_of_getElem? ho)
  have hwT := (X.wanted ht hr hn).trans hw
  have hcl := X.run.cl ht
  have h3 : i ∉ posOf cls 3 := by intro h; rw [mem_posOf, hcl] at h; have := Option.some.inj h; omega
  have h2 : i ∉ posOf cls 2 := by intro h; rw [mem_posOf, hcl] at h; have := Option.some.inj h; omega
  -- a heap with fewer blocks, at which it gives the value
  obtain ⟨Y', s1, s2, hs⟩ : ∃ Y' : H, Y'.next = Y.next ∧ (∀ x b, Y'.get x = some b → Y.get x = some b) ∧ Eng.step (trOp P g.f ops o).a Q (TL T0 dst v r) Y' = some (v i, Y') := by
    rcases hc with hc | hc
    · have hst := (X.run.st i _ ht).2
      rw [hw, clOf_L (by rw [hcl, hc])] at hst
      obtain ⟨⟨h', hs⟩, _⟩ := hst
      rw [← X.step ht hr hn] at hs
      exact ⟨Y, rfl, fun _ _ h => h, (step0 hc hs).2 Y⟩
    · obtain ⟨h', hs⟩ := X.reads hI ht hc hr hn hw
      obtain ⟨s1, s2, _⟩ := hI.shape.vis (i := i) (fun a s _ h => X.ahead_done h hr)
      rw [← X.step ht hr hn] at hs
      have := step1 hc hs
      subst this
      exact ⟨_, s1, s2, hs⟩
  have hbad : (trOp P g.f ops o).a ≠ .bad "" := by intro hb; rw [hb] at hs; cases hs
  have htA := (trOp_dst (P := P) (g := g) ops o).2.1 hbad
  have hWm := (X.want ho hI.tmps hI.size (.inl hbad)).trans hwT
  obtain ⟨μ1, w1, z, q1, q2, q3, q4⟩ := op_ok (b := b) (rest := rest) (k := K) (cs := cs) X.q (D := Dl) ⟨hI.heap.sub s2 s1, hI.tmps, hI.size, hI.defers⟩ htA hs ho hWm hod
  obtain ⟨f1, f2⟩ := frame hI.heap s2 s1 q2 q3 (fun x => Y'.get x = none) (fun _ h => h) (G := Y) (fun _ _ => rfl) (fun x hx => by
    cases hg : Y'.get x with
    | none => exact absurd hg hx
    | some bb => exact s2 x bb hg) s1.symm
  obtain ⟨p1, p2, p3⟩ := X.putT ho (hI.tmps.mono q3.mu q3.sz) hI.size q4
  refine ⟨k, μ1, _, w1, Y, q1, ⟨hI.kle, X.kdone_other hI.kdone h3, hI.shape.congr fun s b => X.inS_other h2 s b, hI.ge, ?_, f1, hI.ext.trans f2, p1, p2, by rw [p3]; exact hI.defers.mono q3.mu, hI.base0⟩⟩
  intro a' s hs hor
  rw [q3.old (base + s) (by
    have := (List.getElem?_eq_some_iff.1 hs).1
    have := hI.ge
    omega)]
  refine hI.mu a' s hs ?_
  rcases hor with h | h
  · exact .inl fun h' => h (List.mem_cons_of_mem _ h')
  · exact .inr h

/-- an operation that lays a row -/
theorem Ctx.step_A (X : Ctx P g Q N base ops tr cls ms dst D v T0) {r : List Nat} {k : Nat} {μ : Mu} {a : Act} {w : World} {Y : H} (hI : Inv P g N base tr cls ms dst D v T0 μ0 h0 w0 Dl r k μ a w Y) {i : Nat} {o : Oper} (ho : ops[i]? = some o) (hr : Ready .any ops (i :: r)) (hn : (i :: r).Nodup)
    (hw : Eng.wanted (D i).T (trOp P g.f ops o).guard = true) (hc : clsA (trOp P g.f ops o).a = 2) {b : Frame} {rest : List Nat} {K : List Item} {cs : List Frame} :
    ∃ k' μ' a' w' Y', Steps P (lone (b.atR a (.inRegion ops (i :: rest) :: K)) cs w) (lone (b.atR a' (.inRegion ops rest :: K)) cs w') ∧ Inv P g N base tr cls ms dst D v T0 μ0 h0 w0 Dl (i :: r) k' μ' a' w' Y' := by
  have ht := X.op ho
  have hi : i < tr.length := (List.getElem?_eq_some_iff.1 ht).1
  have hod : dstOk N o.dst = true := X.lt o (by rw [← Array.getElem?_toList] at ho; exact List.mem_of_getElem? ho)
  have hwT := (X.wanted ht hr hn).trans hw
  have hcl := X.run.cl ht
  rw [hc] at hcl
  have h3 : i ∉ posOf cls 3 := by intro h; rw [mem_posOf, hcl] at h; have := Option.some.inj h; omega
  obtain ⟨s0, hs0⟩ := List.mem_iff_getElem?.1 (mem_posOf.2 hcl)
  have hst := (X.run.st i _ ht).2
  rw [hw, clOf_A hcl hs0] at hst
  obtain ⟨⟨h', blk, hs, hgb, hp⟩, _⟩ := hst
  rw [← X.step ht hr hn] at hs
  have hlk : lookP s0 (D tr.length).pend = some blk := by
    rw [← X.lookEq hs0 (Nat.lt_succ_self i) (by omega), hp, lookP_cons, if_pos rfl]
  have hbad : (trOp P g.f ops o).a ≠ .bad "" := by intro hb; rw [hb] at hs; cases hs
  have htA := (trOp_dst (P := P) (g := g) ops o).2.1 hbad
  have hWm := (X.want ho hI.tmps hI.size (.inl hbad)).trans hwT
  obtain ⟨z, wr, c, e, fz, vs, m, mk, q1, q2, q3, q4, q5, q6, q7, q8, q9, q10, q11⟩ := row_ok (act_OR (a := a) hI.tmps) htA hc hs
  have hblk : blk = .cells vs m := by
    rw [q9, H.get_new, if_pos rfl] at hgb
    exact (Option.some.inj hgb).symm
  have hmn : μ (base + s0) = none := hI.mu i s0 hs0 (.inl (List.nodup_cons.1 hn).1)
  have hs0lt := (List.getElem?_eq_some_iff.1 hs0).1
  have hge := hI.ge
  obtain ⟨n1, n2, n3, n4⟩ := HR.newAt hI.heap (base + s0) hmn (by omega) wr q2 q3 c e fz vs m q5 q6 q7 q8
  have hbase : base ≤ base + s0 := by omega
  have hg := stepGR_op (P := P) (b := b) (k := K) (cs := cs) (w := w) (rest := rest) ho hWm
  rw [Oper.semAt_eq _ _ _ (trA_no_defer htA)] at hg
  have hfin : (b.atR a (.inRegion ops (i :: rest) :: K)).finish z = b.atR (a.put o.dst z) (.inRegion ops rest :: K) := by
    rw [Frame.finish_atR, ho]; rfl
  have hle := Mu.le_add (x := (w.heap.size, 0)) hmn
  have hvr : VR g (μ.add (base + s0) (w.heap.size, 0)) (szOf (wr.alloc (.cells c e fz))) (v i) z := by
    rw [q10]
    exact q11 _ _ _ (Mu.add_same _ _ _) n3
  obtain ⟨p1, p2, p3⟩ := X.putT ho (hI.tmps.mono hle n4) hI.size hvr
  have hfree : Free (posOf cls 3) ms (posOf cls 2) k i s0 := ⟨hs0, fun b hb => X.not_ahead hr hn ((hI.kdone b (List.mem_of_mem_take hb)).1 hb)⟩
  have hother : ∀ a' s, (posOf cls 2)[s]? = some a' → a' ≠ i → base + s0 ≠ base + s := by
    intro a' s h1 h2 e
    have : s0 = s := by omega
    subst this
    rw [hs0] at h1; cases h1; exact h2 rfl
  have hnotin : ∀ a', a' ∈ r → a' ≠ i := by rintro a' h rfl; exact (List.nodup_cons.1 hn).1 h
  have hext0 : h0.next ≤ base → Ext μ0 h0 w0 (μ.add (base + s0) (w.heap.size, 0)) (Y.put (base + s0) (.cells vs m)) (wr.alloc (.cells c e fz)) := fun h => n2 μ0 h0 w0 hI.ext (by omega)
  refine ⟨k, _, a.put o.dst z, _, Y.put (base + s0) (.cells vs m), .one (step_lone_go ?_), ⟨hI.kle, X.kdone_other hI.kdone h3, ⟨?_, ?_, ?_, hI.shape.none, ?_⟩, hge, ?_, n1, hext0 hI.base0, p1, p2, by rw [p3]; exact hI.defers.mono hle, hI.base0⟩⟩
  · rw [hg, ← hfin]; simp [stepG.apply, q1]
  · exact hI.shape.next
  · rintro s b' ⟨a', h4, h5, h6⟩
    rw [H.get_put]
    by_cases hai : a' = i
    · subst hai
      have : s0 = s := slot_inj (posOf_sorted _ _) hs0 h4.1
      subst this
      rw [hlk] at h6; cases h6
      rw [if_pos rfl, hblk]
    · rw [if_neg (hother a' s h4.1 hai)]
      exact hI.shape.blk s b' ⟨a', h4, (List.mem_cons.1 h5).resolve_left hai, h6⟩
  · intro x hx
    rw [H.get_put, if_neg (fun e => hx s0 blk ⟨i, hfree, List.mem_cons_self .., hlk⟩ e.symm)]
    refine hI.shape.rest x fun s b' hs' => ?_
    obtain ⟨a', h4, h5, h6⟩ := hs'
    exact hx s b' ⟨a', h4, List.mem_cons_of_mem _ h5, h6⟩
  · rintro s b' ⟨a', h4, h5, h6⟩
    by_cases hai : a' = i
    · subst hai
      have : s0 = s := slot_inj (posOf_sorted _ _) hs0 h4.1
      subst this
      rw [hlk] at h6; cases h6
      rw [hblk]
      cases m <;> first | rfl | exact absurd rfl q4
    · exact hI.shape.own s b' ⟨a', h4, (List.mem_cons.1 h5).resolve_left hai, h6⟩
  · intro a' s hs' hor
    have hne : base + s0 ≠ base + s := by
      intro e
      have : s0 = s := by omega
      subst this
      rw [hs0] at hs'; cases hs'
      rcases hor with h | h
      · exact h (List.mem_cons_self ..)
      · rw [hlk] at h; cases h
    rw [Mu.add_other _ _ hne]
    refine hI.mu a' s hs' ?_
    rcases hor with h | h
    · exact .inl fun h' => h (List.mem_cons_of_mem _ h')
    · exact .inr h
end
end Go.Eng

/-
  ENGINE, part 17n: a drawn region as a whole. Own work.
-/
namespace Go.Eng
open Go

variable {P : Program} {g : Gn}

theorem apartOk_get {ms : List Nat} {tr : List Op} {i d : Nat} : ∀ {l : List (Op × Nat)}, apartOk ms tr i d l = true → ∀ o j, (o, j) ∈ l → (o.dst = some d ∨ d ∈ namesR o) → i = j ∨ cmp ms i j = true := by
  intro l
  induction l with
  | nil => intro _ o j h; cases h
  | cons x r ih =>
    intro h o j hm hor
    obtain ⟨o0, j0⟩ := x
    simp only [apartOk, Bool.and_eq_true] at h
    rcases List.mem_cons.1 hm with e | hm
    · cases e
      have h1 := h.1
      simp only [Bool.or_eq_true, beq_iff_eq, Bool.not_eq_true', Bool.or_eq_false_iff] at h1
      rcases h1 with (h1 | h1) | h1
      · exact .inl h1
      · exact .inr h1
      · exfalso
        rcases hor with hd | hd
        · rw [hd] at h1; simp at h1
        · have := h1.2
          rw [List.contains_eq_mem] at this
          simp [hd] at this
    · exact ih h.2 o j hm hor

theorem Ext.next_up {μ : Mu} {h : H} {w : World} {h' : H} (hg : ∀ i, h'.get i = h.get i) (hn : h.next ≤ h'.next) : Ext μ h w μ h' w :=
  ⟨Mu.le_refl _, Nat.le_refl _, Sz.le_refl _, fun _ _ _ => rfl, fun i blk b base h1 h3 _ => ⟨i, blk, base, by rw [← hg]; exact h1, id, h3⟩, hn, ⟨rfl, rfl⟩, fun _ _ => rfl⟩

section
variable {Q : Orc} {N base : Nat} {ops : Array Oper} {tr : List Op} {cls ms : List Nat} {dst : Nat → Option Nat} {D : Nat → Ds} {v : Nat → V} {T0 : Tr V}
variable {μ0 : Mu} {h0 : H} {w0 : World} {Dl : List Nat}

theorem Ctx.next (X : Ctx P g Q N base ops tr cls ms dst D v T0) {r : List Nat} {k : Nat} {μ : Mu} {a : Act} {w : World} {Y : H} (hI : Inv P g N base tr cls ms dst D v T0 μ0 h0 w0 Dl r k μ a w Y) {i : Nat} (hi : i < ops.size) (hr : Ready .any ops (i :: r)) (hn : (i :: r).Nodup)
    {b : Frame} {rest : List Nat} {K : List Item} {cs : List Frame} :
    ∃ k' μ' a' w' Y', Steps P (lone (b.atR a (.inRegion ops (i :: rest) :: K)) cs w) (lone (b.atR a' (.inRegion ops rest :: K)) cs w') ∧ Inv P g N base tr cls ms dst D v T0 μ0 h0 w0 Dl (i :: r) k' μ' a' w' Y' := by
  have ho : ops[i]? = some ops[i] := Array.getElem?_eq_getElem hi
  generalize ops[i] = o at ho
  cases hw : Eng.wanted (D i).T (trOp P g.f ops o).guard with
  | false => exact X.step_skip hI ho hr hn hw
  | true =>
    rcases clsA_le (trOp P g.f ops o).a with hc | hc | hc | hc
    · exact X.step_LR hI ho hr hn hw (.inl hc)
    · exact X.step_LR hI ho hr hn hw (.inr hc)
    · exact X.step_A hI ho hr hn hw hc
    · exact X.step_B hI ho hr hn hw (mem_posOf.2 (by rw [X.run.cl (X.op ho), hc]))

theorem Ctx.all (X : Ctx P g Q N base ops tr cls ms dst D v T0) {l : List Nat} (hr : Ready .any ops l) (hn : l.Nodup) (hl : ∀ j ∈ l, j < ops.size) {b : Frame} {K : List Item} {cs : List Frame} : ∀ (rest r : List Nat) (k : Nat) (μ : Mu) (a : Act) (w : World) (Y : H), l = rest.reverse ++ r →
    Inv P g N base tr cls ms dst D v T0 μ0 h0 w0 Dl r k μ a w Y → ∃ k' μ' a' w' Y', Steps P (lone (b.atR a (.inRegion ops rest :: K)) cs w) (lone (b.atR a' K) cs w') ∧ Inv P g N base tr cls ms dst D v T0 μ0 h0 w0 Dl l k' μ' a' w' Y' := by
  intro rest
  induction rest with
  | nil => intro r k μ a w Y e hI; rw [e]; exact ⟨k, μ, a, w, Y, .one stepR_region_end, hI⟩
  | cons i rest ih =>
    intro r k μ a w Y e hI
    rw [List.reverse_cons, List.append_assoc, List.singleton_append] at e
    have hr' : Ready .any ops (i :: r) := Ready.tail (l := rest.reverse) (by rw [← e]; exact hr)
    have hn' : (i :: r).Nodup := by rw [e, List.nodup_append] at hn; exact hn.2.1
    obtain ⟨k1, μ1, a1, w1, Y1, s1, i1⟩ := X.next hI (hl i (by rw [e]; simp)) hr' hn' (b := b) (rest := rest) (K := K) (cs := cs)
    obtain ⟨k2, μ2, a2, w2, Y2, s2, i2⟩ := ih (i :: r) k1 μ1 a1 w1 Y1 e i1
    exact ⟨k2, μ2, a2, w2, Y2, s1.trans s2, i2⟩
end

theorem nodup_full {n : Nat} {l : List Nat} (hn : l.Nodup) (hl : ∀ j ∈ l, j < n) (hlen : l.length = n) : ∀ i, i ∈ l ↔ i < n := by
  have key : ∀ (n : Nat) (l : List Nat), l.Nodup → (∀ j ∈ l, j < n) → n ≤ l.length → ∀ i, i < n → i ∈ l := by
    intro n
    induction n with
    | zero => intro l _ _ _ i h; omega
    | succ n ih =>
      intro l hn hl hlen i hi
      have hin : n ∈ l := by
        apply Classical.byContradiction
        intro hnot
        -- all below n: too many
        have hl' : ∀ j ∈ l, j < n := by
          intro j hj
          have h1 := hl j hj
          have : j ≠ n := by rintro rfl; exact hnot hj
          omega
        cases l with
        | nil => simp at hlen
        | cons x l =>
          rw [List.nodup_cons] at hn
          have := ih l hn.2 (fun j hj => hl' j (List.mem_cons_of_mem _ hj)) (by simp at hlen; omega) x (hl' x (List.mem_cons_self ..))
          exact hn.1 this
      by_cases hni : i = n
      · subst hni; exact hin
      · have h1 := ih (l.erase n) (hn.erase n) (by
          intro j hj
          have h2 := List.mem_of_mem_erase hj
          have h3 := hl j h2
          have : j ≠ n := by
            rintro rfl
            exact (hn.not_mem_erase) hj
          omega) (by rw [List.length_erase_of_mem hin]; omega) i (by omega)
        exact List.mem_of_mem_erase h1
  exact fun i => ⟨hl i, fun h => key n l hn hl (by omega) i h⟩

theorem drawn_ok {Q : Orc} (hQ : QOk P g Q) {N : Nat} {id : Nat} {ops : Array Oper} (hN : ∀ o ∈ ops.toList, dstOk N o.dst = true) {na : Nat} {fin : List Nat} {l : List (Op × Cl)} (ht : trD P g.f ops = .dops na fin l)
    {μ : Mu} {st st1 : St} {a : Act} {w : World} (hs : SR P g N μ st a w) (he : evD Q na fin l st = some st1) {b : Frame} {k : List Item} {cs : List Frame} :
    ∃ μ1 a1 w1, Steps P (lone (b.atR a (.code (.region id ops true) :: k)) cs w) (lone (b.atR a1 k) cs w1) ∧ SR P g N μ1 st1 a1 w1 ∧ Ext μ st.h w μ1 st1.h w1 := by
  unfold trD at ht
  simp only at ht
  generalize htr : ops.toList.map (trOp P g.f ops) = tr at ht
  generalize hcls : tr.map (fun o => clsA o.a) = cls at ht
  generalize hms : masks ops.toList [] = ms at ht
  cases hchk : dChk ops.toList tr cls ms with
  | false => rw [hchk] at ht; cases ht
  | true =>
  rw [hchk] at ht
  simp only [if_true] at ht
  obtain ⟨rfl, rfl, rfl⟩ : (posOf cls 2).length = na ∧ finOf cls ms = fin ∧ tr.zipIdx.map (fun x => (x.1, clOf cls ms x.2)) = l := by
    injection ht with h1 h2 h3; exact ⟨h1, h2, h3⟩
  unfold dChk at hchk
  simp only [Bool.and_eq_true, List.all_eq_true] at hchk
  obtain ⟨c1, c2, c3, c4⟩ := hchk
  unfold evD at he
  cases hev : evDl Q st.h.next (tr.zipIdx.map (fun x => (x.1, clOf cls ms x.2))) ⟨st.T, ⟨st.h.t, st.h.next + (posOf cls 2).length⟩, [], [⟨st.h.t, st.h.next + (posOf cls 2).length⟩], []⟩ with
  | none => rw [hev] at he; cases he
  | some d =>
  rw [hev] at he
  simp only at he
  cases hok : okRs Q st.h.next d d.chk with
  | false => rw [hok] at he; cases he
  | true =>
  rw [hok] at he
  simp only [Option.some.injEq] at he
  obtain ⟨D, d0, dn, dst⟩ := evDl_states _ _ _ hev
  have hlen : (tr.zipIdx.map (fun x => (x.1, clOf cls ms x.2))).length = tr.length := by simp
  have hget : ∀ i o, tr[i]? = some o → (tr.zipIdx.map (fun x => (x.1, clOf cls ms x.2)))[i]? = some (o, clOf cls ms i) := by
    intro i o h
    rw [List.getElem?_map, List.getElem?_zipIdx, h]; simp
  rw [hlen] at dn
  have hch : ∀ i, ∃ x : V, ∀ o, tr[i]? = some o → DStep Q st.h.next o (clOf cls ms i) (D i) (D (i + 1)) x := by
    intro i
    cases ho : tr[i]? with
    | none => exact ⟨undefV, fun o h => by cases h⟩
    | some o =>
      obtain ⟨x, hx⟩ := dst i o _ (hget i o ho)
      exact ⟨x, fun o' h => by cases h; exact hx⟩
  obtain ⟨v, hv⟩ := Classical.axiomOfChoice hch
  have hR : TRun Q st.h.next tr cls ms D v := ⟨hcls.symm, hv, by rw [d0], by rw [d0]⟩
  have hT : ∀ i, i ≤ tr.length → (D i).T = TL st.T (fun i => (tr[i]?).bind (·.dst)) v (List.range i).reverse := by
    intro i hi
    have := states_T (l := tr.zipIdx.map (fun x => (x.1, clOf cls ms x.2))) (D := D) (v := v) (dst := fun i => (tr[i]?).bind (·.dst)) (Q := Q) (base := st.h.next)
      (fun i o cl h => by
        rw [List.getElem?_map, List.getElem?_zipIdx] at h
        cases ho : tr[i]? with
        | none => rw [ho] at h; simp at h
        | some o' => rw [ho] at h; simp at h; rw [← h.1]; rfl)
      (fun i o cl h => by
        rw [List.getElem?_map, List.getElem?_zipIdx] at h
        cases ho : tr[i]? with
        | none => rw [ho] at h; simp at h
        | some o' => rw [ho] at h; simp at h; rw [← h.1, ← h.2]; exact hv i o' ho) i (by rw [hlen]; exact hi)
    rw [this, d0]
  have hdn : D tr.length = d := dn
  have X : Ctx P g Q N st.h.next ops tr cls ms (fun i => (tr[i]?).bind (·.dst)) D v st.T := by
    refine ⟨hQ, hN, htr.symm, hms.symm, rfl, hR, by rw [hdn]; exact hok, ?_, ?_, ?_, hT⟩
    · intro i o ho e hem hb
      have hm : (o, i) ∈ ops.toList.zipIdx := by
        rw [List.mem_zipIdx_iff_getElem?]; simpa using ho
      have := c3 _ hm e (by simpa using hem)
      rw [hb] at this
      simpa [Nat.blt_eq] using this
    · intro i d' hd j o ho hor
      simp only [Option.bind_eq_some_iff] at hd
      obtain ⟨oi, hoi, hod⟩ := hd
      have h1 := c1 (oi, i) (List.mem_zipIdx_iff_getElem?.2 hoi)
      simp only [hod] at h1
      exact apartOk_get h1 o j (List.mem_zipIdx_iff_getElem?.2 ho) hor
    · intro i j hi hj
      have := c2 i hi j hj
      simpa using this
  -- the start
  have hI0 : Inv P g N st.h.next tr cls ms (fun i => (tr[i]?).bind (·.dst)) D v st.T μ st.h w st.D [] 0 μ a { w with drawn := w.drawn + 1 } ⟨st.h.t, st.h.next + (posOf cls 2).length⟩ := by
    have hh0 : hAt D (posOf cls 3) 0 = ⟨st.h.t, st.h.next + (posOf cls 2).length⟩ := by simp only [hAt, d0]
    have hfr : ∀ i, st.h.next ≤ i → st.h.get i = none := by
      intro i hi
      cases hg : st.h.get i with
      | none => rfl
      | some bb =>
        obtain ⟨x, y, hm, _⟩ := hs.heap.blk i bb hg
        rw [hs.heap.fresh i hi] at hm; cases hm
    refine ⟨Nat.zero_le _, fun b _ => by simp, ⟨by rw [hh0], ?_, ?_, ?_, ?_⟩, Nat.le_refl _, ?_, ?_, ?_, hs.tmps, hs.size, hs.defers, Nat.le_refl _⟩
    · rintro s bb ⟨_, _, h, _⟩; cases h
    · intro x _; rw [hh0]
    · intro a' s _
      rw [hh0]
      exact hfr _ (by omega)
    · rintro s bb ⟨_, _, h, _⟩; cases h
    · intro a' s _ _
      exact hs.heap.fresh _ (by omega)
    · exact ⟨fun i hi => hs.heap.fresh i (by have : st.h.next + (posOf cls 2).length ≤ i := hi; omega), fun i bb hb => hs.heap.blk i bb hb, hs.heap.inj⟩
    · exact ⟨Mu.le_refl _, Nat.le_refl _, Sz.le_refl _, fun _ _ _ => rfl, fun i blk b base h1 h3 _ => ⟨i, blk, base, h1, fun h => h, h3⟩, Nat.le_add_right _ _, ⟨rfl, rfl⟩, fun _ _ => rfl⟩
  obtain ⟨lo, e1, e2, e3, e4, e5⟩ := schedule_ok X.edge (fun hd => by rw [hd] at c4; simpa using c4) (P.follows .mixedOrders) (w.tape w.drawn (.order b.fn id))
  obtain ⟨k', μ', a', w', Y', hsteps, hI⟩ := X.all e5 e3 e4 (b := b) (K := k) (cs := cs) lo.reverse [] 0 μ a _ _ (by simp) hI0
  have hfull := nodup_full e3 e4 e2
  have hn : tr.length = ops.size := X.len
  have hkK : k' = (posOf cls 3).length := by
    rw [take_eq_cnt (posOf_sorted _ _) hI.kle (i := tr.length) (fun bb hb => by rw [hI.kdone bb hb, hfull bb, hn])]
    refine cnt_all fun bb hb => ?_
    rw [mem_posOf] at hb
    obtain ⟨o, ho, _⟩ := X.run.op hb
    exact (List.getElem?_eq_some_iff.1 ho).1
  have hfin : ∀ s, s ∈ finOf cls ms ↔ ∃ a, Free (posOf cls 3) ms (posOf cls 2) (posOf cls 3).length a s := by
    intro s
    have e : finOf cls ms = ((posOf cls 2).zipIdx.filter fun x => !((posOf cls 3).take (posOf cls 3).length).any fun b => (ms.getD b 0).testBit x.1).map (·.2) := by
      rw [List.take_length]; rfl
    rw [e, List.mem_map]
    constructor
    · rintro ⟨⟨a, s'⟩, h, rfl⟩; exact ⟨a, free_iff.1 h⟩
    · rintro ⟨a, h⟩; exact ⟨(a, s), free_iff.2 h, rfl⟩
  have hhb : d.hb = hAt D (posOf cls 3) (posOf cls 3).length := by
    have := X.run.nth rfl (Nat.le_refl (posOf cls 3).length)
    have h2 := X.run.hb tr.length (Nat.le_refl _)
    rw [hdn] at h2
    rw [h2]
    congr 1
    refine cnt_all fun bb hb => ?_
    rw [mem_posOf] at hb
    obtain ⟨o, ho, _⟩ := X.run.op hb
    exact (List.getElem?_eq_some_iff.1 ho).1
  have hgetY : ∀ x, (addP st.h.next d.pend (finOf cls ms) d.hb).get x = Y'.get x := by
    intro x
    subst hkK
    by_cases hx : ∃ s bb, InS (posOf cls 3) ms (posOf cls 2) (D tr.length).pend lo (posOf cls 3).length s bb ∧ x = st.h.next + s
    · obtain ⟨s, bb, hin, rfl⟩ := hx
      rw [hI.shape.blk s bb hin]
      obtain ⟨a', h4, _, h6⟩ := hin
      rw [hdn] at h6
      exact addP_mem _ _ h6 _ _ ((hfin s).2 ⟨a', h4⟩)
    · rw [hI.shape.rest x fun s bb h1 h2 => hx ⟨s, bb, h1, h2⟩, ← hhb]
      refine addP_not _ _ _ _ fun s h1 h2 => ?_
      cases hl : lookP s d.pend with
      | none => rfl
      | some bb =>
        obtain ⟨a', h4⟩ := (hfin s).1 h1
        refine absurd ⟨s, bb, ⟨a', h4, ?_, by rw [hdn]; exact hl⟩, h2⟩ hx
        rw [hfull a', ← hn]
        obtain ⟨o, ho, _⟩ := X.run.op (mem_posOf.1 (List.mem_of_getElem? h4.1))
        exact (List.getElem?_eq_some_iff.1 ho).1
  have hnextY : (addP st.h.next d.pend (finOf cls ms) d.hb).next = Y'.next := by
    rw [addP_next, hI.shape.next, hhb, hkK]
  refine ⟨μ', a', w', ?_, ?_, ?_⟩
  · refine .head stepR_region_draw ?_
    rw [e1]
    exact hsteps
  · rw [← he]
    refine ⟨hI.heap.same hgetY hnextY, ?_, hI.size, hI.defers⟩
    intro i
    have h1 := hI.tmps i
    have h2 : evO d.T (.t i) = evO (TL st.T (fun i => (tr[i]?).bind (·.dst)) v lo) (.t i) := by
      have h3 := TL_final X.edge (T0 := st.T) (dst := fun i => (tr[i]?).bind (·.dst)) (v := v) e5 e3 hfull (d := i) (fun a b ha hb => by
        simp only [Option.bind_eq_some_iff] at hb
        obtain ⟨o, ho, hod⟩ := hb
        rw [hms]
        exact X.names a i ha b o ho (.inl hod))
      have h4 := hT tr.length (Nat.le_refl _)
      rw [hdn, hn] at h4
      simp only [evO, h4, h3]
    rw [h2]
    exact h1
  · rw [← he]
    exact hI.ext.trans (Ext.next_up hgetY (by rw [hnextY]; exact Nat.le_refl _))
end Go.Eng
