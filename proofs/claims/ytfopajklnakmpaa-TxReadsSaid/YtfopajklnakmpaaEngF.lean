/- The evaluator by which closed calls are run, part F: own work.
-/
import Derived.Test.YtfopajklnakmpaaEngE
import Derived.RowKit3
set_option linter.unusedVariables false
set_option linter.unusedSimpArgs false
set_option linter.unusedSectionVars false
/-
  ENGINE, part 19: what an evaluation says of the machine: all code. Own work.
-/
namespace Go.Eng
open Go

variable {P : Program} {g : Gn}

/-- where a piece of code ends -/
def Arr (P : Program) (m : Machine) (b : Frame) (k : List Item) (cs : List Frame) : Ex → Act → World → Prop
  | .normal, a, w => Steps P m (lone (b.atR a k) cs w)
  | .ret, a, w => ∃ k1, Steps P m (lone (b.atR a (.code .ret :: k1)) cs w)
  | .exit id, a, w => ∃ k1, exitTo id k1 = exitTo id k ∧ Steps P m (lone (b.atR a (.code (.exit id) :: k1)) cs w)
theorem Arr.of_steps {m m1 : Machine} {b : Frame} {k : List Item} {cs : List Frame} {e : Ex} {a : Act} {w : World} (h : Steps P m m1) (h' : Arr P m1 b k cs e a w) : Arr P m b k cs e a w := by
  cases e with
  | normal => exact h.trans h'
  | ret => obtain ⟨k1, hs⟩ := h'; exact ⟨k1, h.trans hs⟩
  | exit id => obtain ⟨k1, he, hs⟩ := h'; exact ⟨k1, he, h.trans hs⟩
/-- an item that catches no exit -/
theorem Arr.pass {m : Machine} {b : Frame} {x : Item} {k : List Item} {cs : List Frame} {e : Ex} {a : Act} {w : World} (hx : ∀ id, exitTo id (x :: k) = exitTo id k) (hn : e ≠ .normal) (h : Arr P m b (x :: k) cs e a w) : Arr P m b k cs e a w := by
  cases e with
  | normal => exact absurd rfl hn
  | ret => exact h
  | exit id => obtain ⟨k1, he, hs⟩ := h; exact ⟨k1, by rw [he, hx], hs⟩

def RndOk (μ : Mu) (rnd : Option Nat) (b : Frame) : Prop := match rnd with
  | none => b.roundOf = none
  | some l => ∃ bl, μ l = some (bl, 0) ∧ b.roundOf = some bl
theorem RndOk.mono {μ μ' : Mu} {rnd : Option Nat} {b : Frame} (h : RndOk μ rnd b) (hμ : Mu.le μ μ') : RndOk μ' rnd b := by
  cases rnd with
  | none => exact h
  | some l => obtain ⟨bl, h1, h2⟩ := h; exact ⟨bl, hμ _ _ h1, h2⟩

section
variable {b : Frame} {a : Act} {k : List Item} {cs : List Frame} {w : World}
theorem stepR_scope {c : Code} : Go.step P (lone (b.atR a (.code (.scope c) :: k)) cs w) = .next (lone (b.atR a (.code c :: .inScope c :: k)) cs w) :=
  step_lone_go (by simp [stepG, stepG.exec, Frame.atR])
theorem stepR_inScope {c : Code} : Go.step P (lone (b.atR a (.inScope c :: k)) cs w) = .next (lone (b.atR a k) cs w) :=
  step_lone_go (by simp [stepG, stepG.exec, Frame.atR])
end

/-- what is asked of a piece of code -/
def CodeOk (P : Program) (g : Gn) (N : Nat) (rnd : Option Nat) (c' : Code) (f : K) : Prop :=
  ∀ (μ : Mu) (st : St) (e : Ex) (st1 : St) (a : Act) (w : World) (b : Frame) (k : List Item) (cs : List Frame), SR P g N μ st a w → RndOk μ rnd b → f st = some (e, st1) →
    ∃ μ1 a1 w1, Arr P (lone (b.atR a (.code c' :: k)) cs w) b k cs e a1 w1 ∧ SR P g N μ1 st1 a1 w1 ∧ Ext μ st.h w μ1 st1.h w1

theorem dops_ok {Q : Orc} (hQ : QOk P g Q) {N : Nat} {rnd : Option Nat} {id : Nat} {ops : Array Oper} (hN : ∀ o ∈ ops.toList, dstOk N o.dst = true) {na : Nat} {fin : List Nat} {l : List (Op × Cl)} (ht : trD P g.f ops = .dops na fin l) :
    CodeOk P g N rnd (.region id ops true) (cDops Q na fin l) := by
  intro μ st e st1 a w b k cs hs _ h
  unfold cDops at h
  cases hev : evD Q na fin l st with
  | none => rw [hev] at h; cases h
  | some st2 =>
    rw [hev] at h; cases h
    exact drawn_ok hQ hN ht hs hev

theorem okC_dsts {N : Nat} {ops : Array Oper} (h : okC N (.ops (ops.toList.map (trOp P g.f ops))) = true) : ∀ o ∈ ops.toList, dstOk N o.dst = true := by
  intro o ho
  simp only [okC, List.all_map, List.all_eq_true] at h
  have := h o ho
  simp only [Function.comp] at this
  rw [(trOp_dst (P := P) (g := g) ops o).1] at this
  exact this

theorem okC_ddsts {N : Nat} {ops : Array Oper} {na : Nat} {fin : List Nat} {l : List (Op × Cl)} (ht : trD P g.f ops = .dops na fin l) (h : okC N (.dops na fin l) = true) : ∀ o ∈ ops.toList, dstOk N o.dst = true := by
  unfold trD at ht
  simp only at ht
  split at ht
  · cases ht
    intro o ho
    simp only [okC, List.all_map, List.all_eq_true] at h
    obtain ⟨j, hj, rfl⟩ := List.mem_iff_getElem.1 ho
    have hmem : (trOp P g.f ops ops.toList[j], j) ∈ (ops.toList.map (trOp P g.f ops)).zipIdx := by
      rw [List.mem_zipIdx_iff_getElem?]
      show (ops.toList.map (trOp P g.f ops))[j]? = _
      rw [List.getElem?_map, List.getElem?_eq_getElem hj]
      rfl
    have := h _ hmem
    simp only [Function.comp] at this
    rw [(trOp_dst (P := P) (g := g) ops _).1] at this
    exact this
  · cases ht

theorem loop_ok {N : Nat} {rnd : Option Nat} {c' : Code} {f : K} (hf : CodeOk P g N rnd c' f) : ∀ (n : Nat) (μ : Mu) (st : St) (e : Ex) (st1 : St) (a : Act) (w : World) (b : Frame) (k : List Item) (cs : List Frame), SR P g N μ st a w → RndOk μ rnd b → loopN f n st = some (e, st1) →
    ∃ μ1 a1 w1, Arr P (lone (b.atR a (.code c' :: .inLoop c' :: k)) cs w) b k cs e a1 w1 ∧ SR P g N μ1 st1 a1 w1 ∧ Ext μ st.h w μ1 st1.h w1 := by
  intro n
  induction n with
  | zero => intro μ st e st1 a w b k cs _ _ h; cases h
  | succ n ih =>
    intro μ st e st1 a w b k cs hs hrnd h
    have hun : loopN f (n + 1) st = match f st with
      | some (e, st) => (match e with | .normal => loopN f n st | e => some (e, st))
      | none => none := rfl
    rw [hun] at h
    cases hfs : f st with
    | none => rw [hfs] at h; cases h
    | some p =>
      obtain ⟨e2, st2⟩ := p
      rw [hfs] at h
      obtain ⟨μ1, a1, w1, r1, r2, r3⟩ := hf μ st e2 st2 a w b (.inLoop c' :: k) cs hs hrnd hfs
      cases e2 with
      | normal =>
        obtain ⟨μ2, a2, w2, s1, s2, s3⟩ := ih μ1 st2 e st1 a1 w1 b k cs r2 (hrnd.mono r3.mu) h
        exact ⟨μ2, a2, w2, Arr.of_steps (Steps.trans r1 (.one stepR_inLoop)) s1, s2, r3.trans s3⟩
      | ret => cases h; exact ⟨μ1, a1, w1, Arr.pass (fun _ => rfl) (fun e => nomatch e) r1, r2, r3⟩
      | exit id => cases h; exact ⟨μ1, a1, w1, Arr.pass (fun _ => rfl) (fun e => nomatch e) r1, r2, r3⟩

/-- the record of a range over a function, when the function has returned -/
theorem rangeEnd_ok {μ : Mu} {h : H} {w : World} (hr : HR P g μ h w) {l bl : Nat} (hl : μ l = some (bl, 0)) {st : Nat} {jump : Option Jump} {N0 : Nat} {T0 : Tr V} {ps : List Nat} {asg body : C} {dd : Nat}
    (hg : h.get l = some (.loop st jump N0 T0 ps asg body dd)) (hst : st ≠ 1) : ∃ w1, (Instr.endLoop bl).run P w = .ok (jumpCode jump) w1 ∧ HR P g μ (h.del l) w1 ∧ Ext μ h w μ (h.del l) w1 := by
  obtain ⟨b', base', hm', hbr⟩ := hr.blk l _ hg
  rw [hl] at hm'; cases hm'
  obtain ⟨_, L, q1, q2, q3, _⟩ := hbr
  have hstate : L.state ≠ .busy := by
    rcases st with _ | _ | st
    · simp only [stOk] at q2; rw [q2]; simp
    · exact absurd rfl hst
    · simp only [stOk] at q2; rw [q2]; simp
  let w1 : World := { w with heap := w.heap.setIfInBounds bl (.loop { L with state := .exhausted }) }
  have hlt : bl < w.heap.size := by
    rcases Nat.lt_or_ge bl w.heap.size with h | h
    · exact h
    · rw [Array.getElem?_eq_none h] at q1; cases q1
  have hget : (getObj bl).run P w = .ok (.loop L) w := by simp [getObj, Sem.run, q1]
  have hset : (setObj bl (.loop { L with state := .exhausted })).run P w = .ok () w1 := by simp [setObj, Sem.run, q1, w1]
  have hloop : (Instr.getLoop bl).run P w = .ok L w := by simp [Instr.getLoop, hget]
  refine ⟨w1, ?_, HR.delW hr l _ bl 0 hg rfl hl w1 (by simp [w1]) (fun k hk => Array.getElem?_setIfInBounds_ne (Ne.symm hk)) ?_⟩
  · have hb : (L.state == .busy) = false := by simpa using hstate
    simp only [Instr.endLoop, Sem.run_bind, hloop, Result.andThen_ok, hb, Bool.false_eq_true, if_false, hset, Sem.run_pure]
    rw [q3]
  · intro k n hk
    by_cases hkb : k = bl
    · subst hkb; unfold szOf at hk; rw [q1] at hk; cases hk
    · unfold szOf at hk ⊢
      have : w1.heap[k]? = w.heap[k]? := Array.getElem?_setIfInBounds_ne (Ne.symm hkb)
      rw [this]; exact hk

theorem steps_jump {b : Frame} {a : Act} {k : List Item} {cs : List Frame} {w w1 : World} {m : Machine} {j : Option Jump} {bl : Nat} (hs : Steps P m (lone (b.atR a (.endRangeFunc bl :: k)) cs w)) (he : (Instr.endLoop bl).run P w = .ok (jumpCode j) w1) :
    Arr P m b k cs (jumpEx j) a w1 := by
  have h1 := hs.trans (.one (stepR_endRangeFunc (P := P) (b := b) (a := a) (k := k) (cs := cs) he))
  rcases j with _ | (_ | id)
  · exact h1
  · exact ⟨k, h1⟩
  · exact ⟨k, rfl, h1⟩

theorem range_ok {Q : Orc} (hQ : QOk P g Q) {N : Nat} {rnd : Option Nat} {f : Operand} {ps : Array Tmp} {asg body : Code} {f0 : O} (hf : oOf g.f f = some f0)
    (hok : okC N (.rangeF f0 ps.toList (trC P g.f asg) (trC P g.f body)) = true) : CodeOk P g N rnd (.rangeFunc f ps asg body) (cRange Q N rnd f0 ps.toList (trC P g.f asg) (trC P g.f body)) := by
  intro μ st e st1 a w b k cs hs hrnd h
  have hok : (ps.toList.all (fun p => decide (p < N)) = true ∧ okC N (trC P g.f asg) = true) ∧ okC N (trC P g.f body) = true := by simpa only [okC, Bool.and_eq_true] using hok
  -- when the record is laid
  have main : ∀ (μ1 : Mu) (w1 : World) (h1 : H) (D1 : List Nat) (dd bd : Nat) (mark : List Deferred), HR P g μ1 h1 w1 → Ext μ st.h w μ1 h1 w1 → μ1 dd = some (bd, 0) → DR μ1 D1 (mark ++ a.defers) →
      (Instr.enterLoop b.fn a.tmps ps asg body b.roundOf).run P w = .ok (w1.heap.size, mark) (w1.alloc (.loop { state := .ready, pending := none, fn := b.fn, tmps := a.tmps, params := ps, assign := asg, body := body, defers := bd })) →
      rangeGo Q N f0 ps.toList (trC P g.f asg) (trC P g.f body) st.T D1 dd h1 = some (e, st1) →
      ∃ μ1 a1 w1, Arr P (lone (b.atR a (.code (.rangeFunc f ps asg body) :: k)) cs w) b k cs e a1 w1 ∧ SR P g N μ1 st1 a1 w1 ∧ Ext μ st.h w μ1 st1.h w1 := by
    intro μ1 w1 h1 D1 dd bd mark hr1 hx1 hdd hDR hent hgo
    have hfr : μ1 h1.next = none := hr1.fresh _ (Nat.le_refl _)
    have hle := Mu.le_add (x := (w1.heap.size, 0)) hfr
    let L : Loop := { state := .ready, pending := none, fn := b.fn, tmps := a.tmps, params := ps, assign := asg, body := body, defers := bd }
    have hnew : (w1.alloc (.loop L)).heap[w1.heap.size]? = some (.loop L) := heap_alloc_new w1 (.loop L)
    have hsz1 : Sz.le (szOf w1) (szOf (w1.alloc (.loop L))) := szOf_push w1 _
    obtain ⟨k1, k2⟩ := HR.new hr1 (.loop L) (.loop 0 none N st.T ps.toList (trC P g.f asg) (trC P g.f body) dd) (w1.alloc (.loop L)) rfl
      ⟨rfl, L, hnew, rfl, rfl, hs.size, (hs.tmps.mono hx1.mu hx1.sz).mono hle hsz1, rfl, rfl, rfl, hok.1.2, hok.2, hok.1.1, hle _ _ hdd⟩
    unfold rangeGo at hgo
    cases hcall : callF Q (.yld h1.next) (evO st.T f0) (h1.new (.loop 0 none N st.T ps.toList (trC P g.f asg) (trC P g.f body) dd)) with
    | none => rw [hcall] at hgo; cases hgo
    | some p =>
      obtain ⟨rv, h3⟩ := p
      rw [hcall] at hgo
      have hv := (act_OR (a := a) hs.tmps f f0 hf)
      have hmu3 : (μ1.add h1.next (w1.heap.size, 0)) h1.next = some (w1.heap.size, 0) := Mu.add_same _ _ _
      have hv1 := (hv.mono hx1.mu hx1.sz).mono hle hsz1
      -- the function that is ranged over
      obtain ⟨fnum, fst, cps, f', fst', cps', hfe, hfv, hgf, hf1, hf2⟩ : ∃ fnum fst cps f' fst' cps', evO st.T f0 = .fn fnum fst cps ∧ a.eval f = .func (.func f') fst' cps' ∧ g.f f' = fnum ∧
          VRs g (μ1.add h1.next (w1.heap.size, 0)) (szOf (w1.alloc (.loop L))) fst fst'.toList ∧ VRs g (μ1.add h1.next (w1.heap.size, 0)) (szOf (w1.alloc (.loop L))) cps cps'.toList := by
        generalize evO st.T f0 = u at hv1 hcall
        generalize a.eval f = z at hv1
        cases hv1 <;> (try (cases hcall; done))
        rename_i h1' h2' h3'
        exact ⟨_, _, _, _, _, _, rfl, rfl, h1', h2', h3'⟩
      rw [hfe] at hcall
      have hargs : VRs g (μ1.add h1.next (w1.heap.size, 0)) (szOf (w1.alloc (.loop L))) (fst ++ ([.yld h1.next] ++ cps)) ((fst' ++ #[Value.func (.yield w1.heap.size) #[] #[]]) ++ cps').toList := by
        rw [Array.toList_append, Array.toList_append, List.append_assoc]
        exact hf1.append ((VRs.cons _ _ _ _ (.yld _ _ hmu3) .nil).append hf2)
      obtain ⟨c1, c2⟩ := hQ _ _ _ _ _ hcall _ _ k1 _ hargs f' hgf
      have henter := stepR_rangeFunc (P := P) (b := b) (a := a) (k := k) (cs := cs) (w := w) (g := f) (ps := ps) (assign := asg) (body := body) (l := w1.heap.size) (mark := mark) hent
        (d := { target := .fn (.func f') cps', args := fst' ++ #[Value.func (.yield w1.heap.size) #[] #[]] }) (w₁' := w1.alloc (.loop L)) (f := f') (args := (fst' ++ #[Value.func (.yield w1.heap.size) #[] #[]]) ++ cps') (w₂ := w1.alloc (.loop L))
        (by
          have hm : Array.map a.eval #[Operand.const (Value.func (Fn.yield w1.heap.size) #[] #[])] = #[Value.func (.yield w1.heap.size) #[] #[]] := by simp [Act.eval]
          simp only [resolve, hfv, Deferred.ofValue, Sem.run_pure, hm]
          rfl) (by simpa [invoke] using c1)
      obtain ⟨fr, μ2, w2, x, r1, r2, r3, r4, r5, r6⟩ := c2 (b.atR { a with defers := mark ++ a.defers } (.inRangeFunc w1.heap.size :: k) :: cs)
      have hback : Steps P (lone (b.atR a (.code (.rangeFunc f ps asg body) :: k)) cs w) (lone (b.atR { a with defers := mark ++ a.defers } (.endRangeFunc w1.heap.size :: k)) cs w2) := by
        refine .head henter (r1.trans (.one ?_))
        rw [← finish_atR_inRangeFunc w1.heap.size x]; exact step_leave_returned r3
      simp only [rangeEnd] at hgo
      cases hg3 : h3.get h1.next with
      | none => rw [hg3] at hgo; cases hgo
      | some blk =>
        rw [hg3] at hgo
        cases blk <;> (try (cases hgo; done))
        rename_i stt jump N0 T0 ps0 asg0 body0 dd0
        simp only at hgo
        have hne : stt ≠ 1 ∧ some (jumpEx jump, (⟨st.T, D1, h3.del h1.next⟩ : St)) = some (e, st1) := by
          split at hgo
          · cases hgo
          · exact ⟨by assumption, hgo⟩
        obtain ⟨hne, hgo⟩ := hne
        cases hgo
        obtain ⟨w3, s1, s2, s3⟩ := rangeEnd_ok r4 (r5.mu _ _ hmu3) hg3 hne
        have hx := ((hx1.trans k2).trans r5).trans s3
        exact ⟨μ2, { a with defers := mark ++ a.defers }, w3, steps_jump hback s1, ⟨s2, hs.tmps.mono hx.mu hx.sz, hs.size, hDR.mono (Mu.le_trans hle (Mu.le_trans r5.mu s3.mu))⟩, hx⟩
  unfold cRange at h
  cases rnd with
  | none =>
    simp only at h
    have hfr : μ st.h.next = none := hs.heap.fresh _ (Nat.le_refl _)
    have hle := Mu.le_add (x := (w.heap.size, 0)) hfr
    obtain ⟨k1, k2⟩ := HR.new hs.heap (.deferred (some [])) .defers (w.alloc (.deferred (some []))) rfl ⟨rfl, heap_alloc_new w _⟩
    refine main _ _ _ _ st.h.next w.heap.size [{ target := .collected w.heap.size, args := #[] }] k1 k2 (Mu.add_same _ _ _) ?_ ?_ h
    · exact ⟨⟨w.heap.size, Mu.add_same _ _ _, rfl⟩, hs.defers.mono hle⟩
    · have hro : b.roundOf = none := hrnd
      simp [Instr.enterLoop, hro]
  | some l =>
    simp only at h
    obtain ⟨bl, hl, hro⟩ := hrnd
    cases hg : st.h.get l with
    | none => rw [hg] at h; cases h
    | some blk =>
      rw [hg] at h
      cases blk <;> (try (cases h; done))
      rename_i stt jump N0 T0 ps0 asg0 body0 dd0
      simp only at h
      obtain ⟨b', base', hm', hbr⟩ := hs.heap.blk l _ hg
      rw [hl] at hm'; cases hm'
      obtain ⟨_, L, q1, q2, q3, q4, q5, q6, q7, q8, q9, q10, q11, q12⟩ := hbr
      refine main μ w st.h st.D dd0 L.defers [] hs.heap (Ext.refl _ _ _) q12 hs.defers ?_ h
      have hget : (getObj bl).run P w = .ok (.loop L) w := by simp [getObj, Sem.run, q1]
      have hloop : (Instr.getLoop bl).run P w = .ok L w := by simp [Instr.getLoop, hget]
      simp [Instr.enterLoop, hro, hloop]

theorem evC_ok {Q : Orc} (hQ : QOk P g Q) {N n : Nat} {rnd : Option Nat} : ∀ (c' : Code), okC N (trC P g.f c') = true → CodeOk P g N rnd c' (evC Q N n rnd (trC P g.f c')) := by
  intro c'
  induction c' with
  | skip =>
    intro _ μ st e st1 a w b k cs hs _ h
    cases h
    exact ⟨μ, a, w, .one stepR_skip, hs, Ext.refl _ _ _⟩
  | label l =>
    intro _ μ st e st1 a w b k cs hs _ h
    cases h
    exact ⟨μ, a, w, .one stepR_label, hs, Ext.refl _ _ _⟩
  | region id ops draw =>
    intro hok
    cases draw with
    | false =>
      intro μ st e st1 a w b k cs hs _ h
      change norm (evOps Q (ops.toList.map (trOp P g.f ops)) st) = _ at h
      cases hev : evOps Q (ops.toList.map (trOp P g.f ops)) st with
      | none => rw [hev] at h; cases h
      | some st2 =>
        rw [hev] at h; cases h
        obtain ⟨μ1, a1, w1, r1, r2, r3⟩ := ops_ok (b := b) (k := k) (cs := cs) hQ (okC_dsts hok) ops.size 0 (by simp) μ st st1 a w hs (by simpa using hev)
        refine ⟨μ1, a1, w1, ?_, r2, r3⟩
        rw [← List.range_eq_range'] at r1
        exact .head stepR_region r1
    | true =>
      change okC N (trD P g.f ops) = true at hok
      change CodeOk P g N rnd _ (evC Q N n rnd (trD P g.f ops))
      cases ht : trD P g.f ops with
      | dops na fin l =>
        rw [ht] at hok
        exact dops_ok hQ (okC_ddsts ht hok) ht
      | bad w => intro μ st e st1 a w b k cs hs _ h; cases h
      | _ => unfold trD at ht; simp only at ht; split at ht <;> cases ht
  | seq x y ihx ihy =>
    intro hok μ st e st1 a w b k cs hs hrnd h
    have hok : okC N (trC P g.f x) = true ∧ okC N (trC P g.f y) = true := by simpa [trC, okC] using hok
    change cSeq (evC Q N n rnd (trC P g.f x)) (evC Q N n rnd (trC P g.f y)) st = _ at h
    unfold cSeq at h
    cases hx : evC Q N n rnd (trC P g.f x) st with
    | none => rw [hx] at h; cases h
    | some p =>
      obtain ⟨e2, st2⟩ := p
      rw [hx] at h
      obtain ⟨μ1, a1, w1, r1, r2, r3⟩ := ihx hok.1 μ st e2 st2 a w b (.code y :: k) cs hs hrnd hx
      cases e2 with
      | normal =>
        obtain ⟨μ2, a2, w2, s1, s2, s3⟩ := ihy hok.2 μ1 st2 e st1 a1 w1 b k cs r2 (hrnd.mono r3.mu) h
        exact ⟨μ2, a2, w2, Arr.of_steps (Steps.head stepR_seq r1) s1, s2, r3.trans s3⟩
      | ret => cases h; exact ⟨μ1, a1, w1, Arr.of_steps (.one stepR_seq) (Arr.pass (x := .code y) (fun _ => rfl) (fun e => nomatch e) r1), r2, r3⟩
      | exit id => cases h; exact ⟨μ1, a1, w1, Arr.of_steps (.one stepR_seq) (Arr.pass (x := .code y) (fun _ => rfl) (fun e => nomatch e) r1), r2, r3⟩
  | cond c x y ihx ihy =>
    intro hok μ st e st1 a w b k cs hs hrnd h
    cases hc : oOf g.f c with
    | none => simp only [trC, hc] at h; cases h
    | some c0 =>
      simp only [trC, hc] at h hok
      have hok : okC N (trC P g.f x) = true ∧ okC N (trC P g.f y) = true := by simpa [okC] using hok
      change cCond c0 (evC Q N n rnd (trC P g.f x)) (evC Q N n rnd (trC P g.f y)) st = _ at h
      unfold cCond at h
      have hv := act_OR (a := a) hs.tmps c c0 hc
      generalize evO st.T c0 = u at hv h
      generalize hcv : a.eval c = cv at hv
      cases hv <;> (try (cases h; done))
      rename_i bb
      cases bb with
      | true =>
        obtain ⟨μ1, a1, w1, r1, r2, r3⟩ := ihx hok.1 μ st e st1 a w b k cs hs hrnd h
        exact ⟨μ1, a1, w1, Arr.of_steps (.one (stepR_cond hcv)) r1, r2, r3⟩
      | false =>
        obtain ⟨μ1, a1, w1, r1, r2, r3⟩ := ihy hok.2 μ st e st1 a w b k cs hs hrnd h
        exact ⟨μ1, a1, w1, Arr.of_steps (.one (stepR_cond hcv)) r1, r2, r3⟩
  | block id x ihx =>
    intro hok μ st e st1 a w b k cs hs hrnd h
    change cBlock id (evC Q N n rnd (trC P g.f x)) st = _ at h
    unfold cBlock at h
    cases hx : evC Q N n rnd (trC P g.f x) st with
    | none => rw [hx] at h; cases h
    | some p =>
      obtain ⟨e2, st2⟩ := p
      rw [hx] at h
      obtain ⟨μ1, a1, w1, r1, r2, r3⟩ := ihx hok μ st e2 st2 a w b (.inBlock id :: k) cs hs hrnd hx
      cases e2 with
      | normal => cases h; exact ⟨μ1, a1, w1, Steps.trans (Steps.head stepR_block r1) (.one stepR_inBlock), r2, r3⟩
      | ret => cases h; exact ⟨μ1, a1, w1, Arr.of_steps (.one stepR_block) r1, r2, r3⟩
      | exit j =>
        simp only at h
        cases hj : Nat.beq j id with
        | true =>
          rw [hj] at h; cases h
          have := Nat.eq_of_beq_eq_true hj
          subst this
          obtain ⟨k1, hk1, hst⟩ := r1
          have hk2 : exitTo j k1 = some k := by rw [hk1]; simp [exitTo]
          exact ⟨μ1, a1, w1, Steps.trans (Steps.head stepR_block hst) (.one (stepR_exit hk2)), r2, r3⟩
        | false =>
          rw [hj] at h; cases h
          have := Nat.ne_of_beq_eq_false hj
          obtain ⟨k1, hk1, hst⟩ := r1
          refine ⟨μ1, a1, w1, ⟨k1, ?_, .head stepR_block hst⟩, r2, r3⟩
          rw [hk1]
          have hne : (id == j) = false := by simpa using fun e => this e.symm
          simp [exitTo, hne]
  | loop x ihx =>
    intro hok μ st e st1 a w b k cs hs hrnd h
    obtain ⟨μ1, a1, w1, r1, r2, r3⟩ := loop_ok (ihx hok) n μ st e st1 a w b k cs hs hrnd h
    exact ⟨μ1, a1, w1, Arr.of_steps (.one stepR_loop) r1, r2, r3⟩
  | rangeFunc f ps asg body iha ihb =>
    intro hok
    cases hf : oOf g.f f with
    | none => intro μ st e st1 a w b k cs hs hrnd h; simp only [trC, hf] at h; cases h
    | some f0 =>
      simp only [trC, hf] at hok ⊢
      exact range_ok hQ hf hok
  | exit id =>
    intro _ μ st e st1 a w b k cs hs _ h
    cases h
    exact ⟨μ, a, w, ⟨k, rfl, .refl _ _⟩, hs, Ext.refl _ _ _⟩
  | scope x ihx =>
    intro hok μ st e st1 a w b k cs hs hrnd h
    obtain ⟨μ1, a1, w1, r1, r2, r3⟩ := ihx hok μ st e st1 a w b (.inScope x :: k) cs hs hrnd h
    refine ⟨μ1, a1, w1, Arr.of_steps (.one stepR_scope) ?_, r2, r3⟩
    cases e with
    | normal => exact Steps.trans r1 (.one stepR_inScope)
    | ret => exact Arr.pass (fun _ => rfl) (fun e => nomatch e) r1
    | exit id => exact Arr.pass (fun _ => rfl) (fun e => nomatch e) r1
  | goto l => intro _ μ st e st1 a w b k cs hs _ h; cases h
  | ret =>
    intro _ μ st e st1 a w b k cs hs _ h
    cases h
    exact ⟨μ, a, w, ⟨k, .refl _ _⟩, hs, Ext.refl _ _ _⟩
  | refuse why => intro _ μ st e st1 a w b k cs hs _ h; cases h
end Go.Eng

/-
  ENGINE, part 20: what an evaluation says of the machine: calls and rounds. Own work.
-/
namespace Go.Eng
open Go

variable {P : Program} {g : Gn}

/-- the table's functions are the program's -/
def Link (P : Program) (g : Gn) (E : Nat → Option Fn) : Prop := ∀ f fn, E (g.f f) = some fn → ∃ F, P.funcs[f]? = some F ∧ trF P g.f F = some fn

def rvG (tmps : Array Value) : ResultVar → Sem Value
  | .tmp t => pure (tmps.getD t undef)
  | .cell p t => do loadVar t (← asAddr (tmps.getD p undef))

theorem results_rvG {F : Func} {tmps : Array Value} : results F tmps = (do
    let vs ← F.results.mapM (rvG tmps)
    return if h : vs.size = 1 then vs[0] else .tuple vs) := by
  unfold results
  congr

theorem resV_ok {N : Nat} {μ : Mu} {T : Tr V} {D : List Nat} {h : H} {a : Act} {w : World} (hr : HR P g μ h w) (ht : TR g μ (szOf w) T a.tmps) : ∀ (l : List ResultVar) (rs : List Res) (vs : List V), l.mapM (trR P) = some rs → resVs T h rs = some vs →
    ∃ xs : List Value, (l.mapM (rvG a.tmps)).run P w = .ok xs w ∧ VRs g μ (szOf w) vs xs := by
  intro l
  induction l with
  | nil => intro rs vs h1 h2; simp at h1; subst h1; cases h2; exact ⟨[], by simp, .nil⟩
  | cons r l ih =>
    intro rs vs h1 h2
    rw [List.mapM_cons] at h1
    simp only [Option.bind_eq_bind, Option.bind_eq_some_iff, Option.pure_def, Option.some.injEq] at h1
    obtain ⟨r', hr', rs', hrs', rfl⟩ := h1
    simp only [resVs] at h2
    cases hv : resV T h r' with
    | none => rw [hv] at h2; cases h2
    | some v =>
      cases hvs : resVs T h rs' with
      | none => rw [hv, hvs] at h2; cases h2
      | some vs' =>
        rw [hv, hvs] at h2; cases h2
        obtain ⟨xs, q1, q2⟩ := ih rs' vs' hrs' hvs
        have key : ∃ x, (rvG a.tmps r).run P w = .ok x w ∧ VR g μ (szOf w) v x := by
          cases r with
          | tmp t => cases hr'; cases hv; exact ⟨_, rfl, ht t⟩
          | cell p t =>
            simp only [trR, Option.map_eq_some_iff] at hr'
            obtain ⟨s, hs, rfl⟩ := hr'
            simp only [resV] at hv
            have hp := ht p
            obtain ⟨x, hx1, hx2⟩ := load_ok hr hs hp hv
            refine ⟨x, ?_, hx2⟩
            show (do loadVar t (← asAddr (a.tmps.getD p undef)) : Sem Value).run P w = _
            generalize a.tmps.getD p undef = z at hp hx1 ⊢
            generalize evO T (.t p) = u at hp hv
            cases hp <;> (try (cases hv; done))
            exact hx1
        obtain ⟨x, q3, q4⟩ := key
        refine ⟨x :: xs, ?_, .cons _ _ _ _ q4 q2⟩
        rw [List.mapM_cons]
        simp only [Sem.run_bind, q3, Result.andThen_ok, q1, Sem.run_pure]

theorem results_ok {μ : Mu} {T : Tr V} {h : H} {a : Act} {w : World} (hr : HR P g μ h w) (ht : TR g μ (szOf w) T a.tmps) {F : Func} {rs : List Res} {vs : List V} (h1 : F.results.toList.mapM (trR P) = some rs) (h2 : resVs T h rs = some vs) :
    ∃ x, (results F a.tmps).run P w = .ok x w ∧ VR g μ (szOf w) (tupOf vs) x := by
  obtain ⟨xs, q1, q2⟩ := resV_ok (N := 0) (D := []) hr ht _ _ _ h1 h2
  refine ⟨if h : xs.toArray.size = 1 then xs.toArray[0] else .tuple xs.toArray, ?_, ?_⟩
  · rw [results_rvG, Array.mapM_eq_mapM_toList]
    simp only [bind_map_left]
    rw [Sem.run_bind]
    rw [q1]
    rfl
  · cases q2 with
    | nil => exact .tup _ _ .nil
    | cons v x l m hv hl =>
      cases hl with
      | nil => exact hv
      | cons v2 x2 l2 m2 hv2 hl2 => exact .tup _ _ (.cons _ _ _ _ hv (.cons _ _ _ _ hv2 hl2))

/-- the marks of ranges over functions, taken one after the other when the function returns -/
theorem unwind_ok {fn : FuncId} {tmps : Array Value} {todo : List Item} {cs : List Frame} : ∀ (D : List Nat) (X : List Deferred) (μ : Mu) (h h1 : H) (w : World), HR P g μ h w → DR μ D X → delD D h = some h1 →
    ∃ w1, Steps P (lone { fn := fn, tmps := tmps, todo := todo, defers := X, mode := .returning, kind := .normal } cs w) (lone { fn := fn, tmps := tmps, todo := todo, defers := [], mode := .returning, kind := .normal } cs w1) ∧ HR P g μ h1 w1 ∧ Ext μ h w μ h1 w1 := by
  intro D
  induction D with
  | nil =>
    intro X μ h h1 w hr hd he
    cases X with
    | nil => cases he; exact ⟨w, .refl _ _, hr, Ext.refl _ _ _⟩
    | cons => exact hd.elim
  | cons d D ih =>
    intro X μ h h1 w hr hd he
    cases X with
    | nil => exact hd.elim
    | cons x X =>
      obtain ⟨⟨b, hb, rfl⟩, hd⟩ := hd
      simp only [delD] at he
      cases hg : h.get d with
      | none => rw [hg] at he; cases he
      | some blk =>
        rw [hg] at he
        cases blk <;> (try (cases he; done))
        obtain ⟨b', base', hm', hbr⟩ := hr.blk d _ hg
        rw [hb] at hm'; cases hm'
        have q1 : w.heap[b]? = some (.deferred (some [])) := hbr.2
        let w1 : World := { w with heap := w.heap.setIfInBounds b (.deferred none) }
        have hget : (getObj b).run P w = .ok (.deferred (some [])) w := by simp [getObj, Sem.run, q1]
        have hset : (setObj b (.deferred none)).run P w = .ok () w1 := by simp [setObj, Sem.run, q1, w1]
        have htake : (Instr.takeDeferred b).run P w = .ok [] w1 := by simp [Instr.takeDeferred, hget, hset]
        obtain ⟨k1, k2⟩ := HR.delW hr d _ b 0 hg rfl hb w1 (by simp [w1]) (fun k hk => Array.getElem?_setIfInBounds_ne (Ne.symm hk)) (by
          intro k n hk
          by_cases hkb : k = b
          · subst hkb; unfold szOf at hk; rw [q1] at hk; cases hk
          · unfold szOf at hk ⊢
            have : w1.heap[k]? = w.heap[k]? := Array.getElem?_setIfInBounds_ne (Ne.symm hkb)
            rw [this]; exact hk)
        obtain ⟨w2, s1, s2, s3⟩ := ih X μ (h.del d) h1 w1 k1 hd he
        refine ⟨w2, .head (step_lone_go ?_) s1, s2, k2.trans s3⟩
        simp [stepG, unwind, Sem.runT_eq, htake, GStep.bare_after]

def setMany : Nat → List Value → Array Value → Array Value
  | _, [], m => m
  | i, x :: r, m => setMany (i + 1) r (m.setIfInBounds i x)

theorem setMany_list : ∀ (xs : List Value) (i : Nat) (m : Array Value), i + xs.length ≤ m.size → (setMany i xs m).toList = m.toList.take i ++ xs ++ m.toList.drop (i + xs.length) := by
  intro xs
  induction xs with
  | nil => intro i m _; simp [setMany]
  | cons x xs ih =>
    intro i m hb
    simp only [List.length_cons] at hb
    have t1 : m.toList.length = m.size := Array.length_toList
    rw [setMany, ih (i + 1) _ (by rw [Array.size_setIfInBounds]; omega), Array.toList_setIfInBounds]
    apply List.ext_getElem?
    intro j
    simp only [List.getElem?_append, List.length_take, List.length_set, List.length_append, List.length_cons, List.getElem?_take, List.getElem?_drop, List.getElem?_set, List.getElem?_cons, t1]
    grind

theorem ofList_ok {μ : Mu} {sz : Sz} : ∀ (args : List V) (xs : List Value), VRs g μ sz args xs → ∀ (i : Nat) (T : Tr V) (m : Array Value), TR g μ sz T m → i + xs.length ≤ m.size → TR g μ sz (ofList i args T) (setMany i xs m) := by
  intro args xs h
  induction args generalizing xs with
  | nil => cases h; intro i T m ht _; exact ht
  | cons v args ih =>
    cases h with
    | cons _ x _ l hv hl =>
      intro i T m ht hb
      simp only [List.length_cons] at hb
      exact ih _ hl _ _ _ (ht.set (by omega) hv) (by rw [Array.size_setIfInBounds]; omega)

theorem htr0_ok {μ : Mu} {sz : Sz} {args : List V} {xs : Array Value} (h : VRs g μ sz args xs.toList) (n : Nat) (hb : xs.size ≤ n) : TR g μ sz (ofList 0 args .e) (xs ++ Array.replicate (n - xs.size) undef) := by
  have h0 : TR g μ sz .e (Array.replicate n undef) := by
    intro i
    have : (Array.replicate n undef).getD i undef = undef := by
      by_cases hi : i < n <;> simp [Array.getD, hi]
    rw [this]
    exact .tup _ _ .nil
  have t1 : xs.toList.length = xs.size := Array.length_toList
  have h1 := ofList_ok args xs.toList h 0 .e _ h0 (by simp; exact hb)
  have h2 : setMany 0 xs.toList (Array.replicate n undef) = xs ++ Array.replicate (n - xs.size) undef := by
    apply Array.toList_inj.1
    rw [setMany_list _ _ _ (by simp; exact hb)]
    simp
  rw [h2] at h1
  exact h1

theorem cFn_ok {E : Nat → Option Fn} (hE : Link P g E) {Q : Orc} (hQ : QOk P g Q) {n f : Nat} {args : List V} {h h1 : H} {v : V} (hc : cFn E Q n f args h = some (v, h1)) : CallOk P g (.fn f) args h v h1 := by
  intro μ w hr xs hxs f' hf
  unfold cFn at hc
  cases hEf : E f with
  | none => rw [hEf] at hc; cases hc
  | some fn =>
    rw [hEf] at hc
    subst hf
    obtain ⟨F, hF, htr⟩ := hE f' fn hEf
    obtain ⟨hle, hc⟩ := cond_true hc
    rw [Nat.ble_eq] at hle
    unfold trF at htr
    simp only [Option.bind_eq_bind, Option.bind_eq_some_iff, Option.pure_def, Option.some.injEq] at htr
    obtain ⟨c, hbody, u, hok, rs, hrs, rfl⟩ := htr
    have hok := okB_true hok
    simp only [Bool.and_eq_true, bne_iff_ne, ne_eq] at hok
    refine ⟨?_, fun cs => ?_⟩
    · simp [callFunc, hF, hok.2, hbody]
    · have hlen := hxs.length
      have t1 : xs.toList.length = xs.size := Array.length_toList
      let a : Act := { tmps := xs ++ Array.replicate (F.ntmps - xs.size) undef, defers := [] }
      let b : Frame := { fn := f', tmps := #[], todo := [], defers := [], mode := .run, kind := .normal }
      change args.length ≤ F.ntmps at hle
      have henter : Frame.enter P f' xs .normal = b.atR a [.code c] := by simp [Frame.enter, Frame.atR, hF, hbody, b, a]
      have hsz : a.tmps.size = F.ntmps := by simp only [a, Array.size_append, Array.size_replicate]; omega
      have htr0 : TR g μ (szOf w) (ofList 0 args .e) a.tmps := htr0_ok hxs _ (by omega)
      have hs : SR P g F.ntmps μ ⟨ofList 0 args .e, [], h⟩ a w := ⟨hr, htr0, hsz, trivial⟩
      simp only at hc
      cases hev : evC Q F.ntmps n none (trC P g.f c) ⟨ofList 0 args .e, [], h⟩ with
      | none => rw [hev] at hc; cases hc
      | some p =>
        obtain ⟨e, st⟩ := p
        rw [hev] at hc
        obtain ⟨μ1, a1, w1, r1, r2, r3⟩ := evC_ok hQ c hok.1 μ _ e st a w b [] cs hs (show RndOk μ none b from (rfl : b.roundOf = none)) hev
        rw [← henter] at r1
        -- to the returning frame
        have hret : e ≠ .exit 0 → ∃ todo, (∀ id, e ≠ .exit id) → Steps P (lone (Frame.enter P f' xs .normal) cs w) (lone { fn := f', tmps := a1.tmps, todo := todo, defers := a1.defers, mode := .returning, kind := .normal } cs w1) := by
          intro _
          cases e with
          | normal => exact ⟨[], fun _ => Steps.trans r1 (.one (stepR_end rfl))⟩
          | ret => obtain ⟨k1, hk⟩ := r1; exact ⟨_, fun _ => Steps.trans hk (.one (stepR_ret rfl))⟩
          | exit id => exact ⟨[], fun hh => absurd rfl (hh id)⟩
        simp only [fnEnd] at hc
        have hne : ∀ id, e ≠ .exit id := by rintro id rfl; cases hc
        obtain ⟨todo, hsteps⟩ := hret (hne 0)
        have hsteps := hsteps hne
        have hc2 : (match delD st.D st.h with | none => none | some h => (match resVs st.T h rs with | some vs => some (tupOf vs, h) | none => none)) = some (v, h1) := by
          cases e with
          | exit id => exact absurd rfl (hne id)
          | normal => exact hc
          | ret => exact hc
        cases hdel : delD st.D st.h with
        | none => rw [hdel] at hc2; cases hc2
        | some h2 =>
          rw [hdel] at hc2
          simp only at hc2
          cases hrv : resVs st.T h2 rs with
          | none => rw [hrv] at hc2; cases hc2
          | some vs =>
            rw [hrv] at hc2; cases hc2
            obtain ⟨w2, s1, s2, s3⟩ := unwind_ok (fn := f') (tmps := a1.tmps) (todo := todo) (cs := cs) st.D a1.defers μ1 st.h h1 w1 r2.heap r2.defers hdel
            obtain ⟨x, hx1, hx2⟩ := results_ok (a := a1) s2 (r2.tmps.mono s3.mu s3.sz) hrs hrv
            exact ⟨_, μ1, w2, x, hsteps.trans s1, rfl, ⟨rfl, rfl, rfl, F, hF, hx1⟩, s2, r3.trans s3, hx2⟩
end Go.Eng

/-
  ENGINE, part 21: what an evaluation says of the machine: the rounds of a range over a function; all calls. Own work.
-/
namespace Go.Eng
open Go

variable {P : Program} {g : Gn}

/-- a loop's record, turned -/
theorem loopPut_ok {μ : Mu} {h : H} {w : World} (hr : HR P g μ h w) {l bl : Nat} (hl : μ l = some (bl, 0)) {st : Nat} {jump : Option Jump} {N0 : Nat} {T0 : Tr V} {ps : List Nat} {asg body : C} {dd : Nat}
    (hg : h.get l = some (.loop st jump N0 T0 ps asg body dd)) (st' : Nat) (jump' : Option Jump) (L' : Loop → Loop) (hL' : ∀ L : Loop, L.pending = jumpCode jump → stOk st' (L' L).state ∧ (L' L).pending = jumpCode jump' ∧ (L' L).tmps = L.tmps ∧ (L' L).params = L.params ∧
      (L' L).assign = L.assign ∧ (L' L).body = L.body ∧ (L' L).defers = L.defers) :
    ∃ L w1, (Instr.getLoop bl).run P w = .ok L w ∧ stOk st L.state ∧ (setObj bl (.loop (L' L))).run P w = .ok () w1 ∧ HR P g μ (h.put l (.loop st' jump' N0 T0 ps asg body dd)) w1 ∧ Ext μ h w μ (h.put l (.loop st' jump' N0 T0 ps asg body dd)) w1 := by
  obtain ⟨b', base', hm', hbr⟩ := hr.blk l _ hg
  rw [hl] at hm'; cases hm'
  obtain ⟨_, L, q1, q2, q3, q4, q5, q6, q7, q8, q9, q10, q11, q12⟩ := hbr
  obtain ⟨p1, p2, p3, p4, p5, p6, p7⟩ := hL' L q3
  let w1 : World := { w with heap := w.heap.setIfInBounds bl (.loop (L' L)) }
  have hlt : bl < w.heap.size := by
    rcases Nat.lt_or_ge bl w.heap.size with h | h
    · exact h
    · rw [Array.getElem?_eq_none h] at q1; cases q1
  have hget : (getObj bl).run P w = .ok (.loop L) w := by simp [getObj, Sem.run, q1]
  have hset : (setObj bl (.loop (L' L))).run P w = .ok () w1 := by simp [setObj, Sem.run, q1, w1]
  have hloop : (Instr.getLoop bl).run P w = .ok L w := by simp [Instr.getLoop, hget]
  have hsz : Sz.le (szOf w) (szOf w1) := by
    intro k n hk
    by_cases hkb : k = bl
    · subst hkb; unfold szOf at hk; rw [q1] at hk; cases hk
    · unfold szOf at hk ⊢
      have : w1.heap[k]? = w.heap[k]? := Array.getElem?_setIfInBounds_ne (Ne.symm hkb)
      rw [this]; exact hk
  have hnew : w1.heap[bl]? = some (.loop (L' L)) := by simp [w1, hlt]
  refine ⟨L, w1, hloop, q2, hset, HR.put hr l _ _ bl 0 hg rfl hl w1 (by simp [w1]) (fun k hk => Array.getElem?_setIfInBounds_ne (Ne.symm hk)) hsz ?_⟩
  exact ⟨rfl, L' L, hnew, p1, p2, by rw [p3]; exact q4, by rw [p3]; exact q5.mono (Mu.le_refl _) hsz, by rw [p4]; exact q6, by rw [p5]; exact q7, by rw [p6]; exact q8, q9, q10, q11, by rw [p7]; exact q12⟩

theorem setPs_ok {μ : Mu} {sz : Sz} : ∀ (ps : List Nat) (vs : List V) (xs : List Value) (T T' : Tr V) (m : Array Value), TR g μ sz T m → VRs g μ sz vs xs → setPs T ps vs = some T' → ps.all (fun p => decide (p < m.size)) = true →
    TR g μ sz T' ((ps.zip xs).foldl (fun tmps (t, a) => tmps.setIfInBounds t a) m) ∧ ((ps.zip xs).foldl (fun tmps (t, a) => tmps.setIfInBounds t a) m).size = m.size ∧ ps.length = xs.length := by
  intro ps
  induction ps with
  | nil =>
    intro vs xs T T' m ht hv he _
    cases hv with
    | nil => cases he; exact ⟨ht, rfl, rfl⟩
    | cons => cases he
  | cons p ps ih =>
    intro vs xs T T' m ht hv he hall
    cases hv with
    | nil => cases he
    | cons v x l m' hv hl =>
      rw [List.all_cons, Bool.and_eq_true, decide_eq_true_eq] at hall
      obtain ⟨r1, r2, r3⟩ := ih l m' (T.set p (some v)) T' (m.setIfInBounds p x) (ht.set hall.1 hv) hl he (by simpa using hall.2)
      exact ⟨r1, by rw [List.zip_cons_cons, List.foldl_cons, r2, Array.size_setIfInBounds], by simp [r3]⟩

theorem jumpCode_ret : jumpCode (some .ret) = some .ret := rfl

theorem cYld_ok {Q : Orc} (hQ : QOk P g Q) {n l : Nat} {args : List V} {h h1 : H} {v : V} (hc : cYld Q n l args h = some (v, h1)) : CallOk P g (.yld l) args h v h1 := by
  intro μ w hr xs hxs bl hb
  unfold cYld at hc
  cases hg : h.get l with
  | none => rw [hg] at hc; cases hc
  | some blk =>
    rw [hg] at hc
    cases blk <;> (try (cases hc; done))
    rename_i st jump N T ps asg body dd
    simp only at hc
    cases st with
    | succ => cases hc
    | zero =>
      simp only at hc
      cases hsp : setPs T ps args with
      | none => rw [hsp] at hc; cases hc
      | some T' =>
        rw [hsp] at hc
        simp only at hc
        obtain ⟨b', base', hm', hbr⟩ := hr.blk l _ hg
        rw [hb] at hm'; cases hm'
        obtain ⟨_, L, q1, q2, q3, q4, q5, q6, q7, q8, q9, q10, q11, q12⟩ := hbr
        obtain ⟨s1, s2, s3⟩ := setPs_ok ps args xs.toList T T' L.tmps q5 hxs hsp (by rw [q4]; exact q11)
        have hget : (getObj bl).run P w = .ok (.loop L) w := by simp [getObj, Sem.run, q1]
        have hloop : (Instr.getLoop bl).run P w = .ok L w := by simp [Instr.getLoop, hget]
        let tm := (L.params.zip xs).foldl (fun tmps (t, a) => tmps.setIfInBounds t a) L.tmps
        have htm : tm = (ps.zip xs.toList).foldl (fun tmps (t, a) => tmps.setIfInBounds t a) L.tmps := by
          rw [← q6, ← Array.toList_zip, Array.foldl_toList]
        have hsize : xs.size = L.params.size := by
          have t1 : xs.toList.length = xs.size := Array.length_toList
          have t2 : L.params.toList.length = L.params.size := Array.length_toList
          rw [q6] at t2; omega
        refine ⟨L.fn, tm, L.assign, L.body, ?_, fun c cs => ?_⟩
        · simp only [Instr.yield, Sem.run_bind, hloop, Result.andThen_ok, hsize, ne_eq, not_true, if_false, Sem.run_pure]
          rfl
        · let b : Frame := { fn := L.fn, tmps := #[], todo := [], defers := [], mode := .run, kind := .normal, roundOf := some bl }
          let a : Act := { tmps := tm, defers := [] }
          have hb0 : Frame.round bl L.fn tm L.assign L.body .normal = b.atR a [.code L.assign, .beginRound, .code L.body] := by simp [Frame.round, Frame.atR, b, a]
          have hs : SR P g N μ ⟨T', [], h⟩ a w := ⟨hr, by show TR g μ (szOf w) T' tm; rw [htm]; exact s1, by show tm.size = N; rw [htm, s2]; exact q4, trivial⟩
          subst q7
          subst q8
          cases hev : evC Q N n (some l) (trC P g.f L.assign) ⟨T', [], h⟩ with
          | none => rw [hev] at hc; cases hc
          | some p =>
            obtain ⟨e, st⟩ := p
            rw [hev] at hc
            obtain ⟨μ1, a1, w1, r1, r2, r3⟩ := evC_ok hQ L.assign q9 μ _ e st a w b [.beginRound, .code L.body] (c :: cs) hs (show RndOk μ (some l) b from ⟨bl, hb, rfl⟩) hev
            rw [← hb0] at r1
            cases e with
            | ret => cases hc
            | exit => cases hc
            | normal =>
              simp only [yldMid] at hc
              cases hg1 : st.h.get l with
              | none => rw [hg1] at hc; cases hc
              | some blk1 =>
                rw [hg1] at hc
                cases blk1 <;> (try (cases hc; done))
                rename_i st1 jump1 N1 T1 ps1 asg1 body1 dd1
                simp only at hc
                cases st1 with
                | succ => cases hc
                | zero =>
                  simp only at hc
                  have hb1 := r3.mu _ _ hb
                  obtain ⟨L1, w2, u1, u2, u3, u4, u5⟩ := loopPut_ok r2.heap hb1 hg1 1 jump1 (fun L => { L with state := .busy }) (fun L hp => ⟨rfl, hp, rfl, rfl, rfl, rfl, rfl⟩)
                  have hbegin : (Instr.beginRound bl).run P w1 = .ok () w2 := by
                    have u2 : L1.state = .ready := u2
                    simp only [Instr.beginRound, Sem.run_bind, u1, Result.andThen_ok, u3, u2, Sem.run_pure]
                  have r4 := Steps.trans r1 (.one (stepR_beginRound (P := P) (b := b) (a := a1) (k := [.code L.body]) (cs := c :: cs) rfl hbegin))
                  cases hev2 : evC Q N n (some l) (trC P g.f L.body) ⟨st.T, st.D, st.h.put l (.loop 1 jump1 N1 T1 ps1 asg1 body1 dd1)⟩ with
                  | none => rw [hev2] at hc; cases hc
                  | some p2 =>
                    obtain ⟨e2, st2⟩ := p2
                    rw [hev2] at hc
                    have hs2 : SR P g N μ1 ⟨st.T, st.D, st.h.put l (.loop 1 jump1 N1 T1 ps1 asg1 body1 dd1)⟩ a1 w2 := ⟨u4, r2.tmps.mono u5.mu u5.sz, r2.size, r2.defers⟩
                    obtain ⟨μ3, a3, w3, v1, v2, v3⟩ := evC_ok hQ L.body q10 μ1 _ e2 st2 a1 w2 b [] (c :: cs) hs2 (show RndOk μ1 (some l) b from ⟨bl, hb1, rfl⟩) hev2
                    simp only [yldEnd] at hc
                    cases hD : st2.D with
                    | cons => rw [hD] at hc; cases hc
                    | nil =>
                      rw [hD] at hc
                      simp only at hc
                      cases hg2 : st2.h.get l with
                      | none => rw [hg2] at hc; cases hc
                      | some blk2 =>
                        rw [hg2] at hc
                        cases blk2 <;> (try (cases hc; done))
                        rename_i st3 jump3 N3 T3 ps3 asg3 body3 dd3
                        cases hc
                        have hb3 := v3.mu _ _ hb1
                        have hx := (r3.trans u5).trans v3
                        obtain ⟨L3, w4, y1, y2, y3, y4, y5⟩ := loopPut_ok v2.heap hb3 hg2 (match (generalizing := false) e2 with | .normal => 0 | _ => 2) (exJump e2) (fun L => { L with state := if (jumpCode (exJump e2)).isNone then .ready else .done, pending := jumpCode (exJump e2) })
                          (fun L hp => ⟨by cases e2 <;> rfl, rfl, rfl, rfl, rfl, rfl, rfl⟩)
                        have hend : (Instr.endRound bl (jumpCode (exJump e2))).run P w3 = .ok (.bool (exJump e2).isNone) w4 := by
                          simp only [Instr.endRound, Sem.run_bind, y1, Result.andThen_ok, y3, Sem.run_pure]
                          cases e2 <;> rfl
                        refine ⟨μ3, w4, .bool (exJump e2).isNone, ?_, y4, hx.trans y5, .bool _⟩
                        cases e2 with
                        | normal => exact Steps.trans (Steps.trans r4 v1) (.one (stepR_round_end rfl rfl hend))
                        | ret =>
                          obtain ⟨k1, hk⟩ := v1
                          exact Steps.trans (Steps.trans r4 hk) (.one (stepR_round_ret rfl rfl hend))
                        | exit id =>
                          obtain ⟨k1, hk, hk2⟩ := v1
                          exact Steps.trans (Steps.trans r4 hk2) (.one (stepR_round_exit rfl rfl hk hend))

theorem callN_ok {E : Nat → Option Fn} (hE : Link P g E) : ∀ n, QOk P g (callN E n) := by
  intro n
  induction n with
  | zero => intro t args h v h1 hc; cases hc
  | succ n ih =>
    intro t args h v h1 hc
    cases t with
    | fn f => exact cFn_ok hE ih (n := n) hc
    | yld l => exact cYld_ok ih (n := n) hc
end Go.Eng

/-
  ENGINE, part 22: a closed run that answers true. Own work.
-/
namespace Go.Eng
open Go Go.RowKit

variable {P : Program} {g : Gn}

/-- what was there before is as it was -/
def Left0 (W W' : World) : Prop := W.keptBut W' (fun _ => False) ∧ (∀ a : Addr, a.block < W.heap.size → W'.frozen? a = W.frozen? a) ∧ W.heap.size ≤ W'.heap.size ∧ ∀ b, b < W.heap.size → W'.heap[b]? = W.heap[b]?

theorem left0_of_ext {μ μ' : Mu} {h h' : H} {W W' : World} (e : Ext μ h W μ' h' W') (hk : ∀ i blk, h.get i = some blk → blk.own = false) : Left0 W W' := by
  have hk' : ∀ b, b < W.heap.size → W'.heap[b]? = W.heap[b]? := fun b hb => e.keep b hb (fun i blk base hg ho => absurd ho (by rw [hk i blk hg]; simp))
  refine ⟨⟨e.io.1, e.io.2, fun i hi => ?_⟩, fun a ha => ?_, e.size, hk'⟩
  · rw [hk' i hi]
    cases W.heap[i]? with
    | none => rfl
    | some o => cases o <;> first | rfl | exact ⟨rfl, rfl, rfl, fun _ _ => rfl⟩ | exact .inr ⟨rfl, rfl⟩
  · unfold World.frozen?
    rw [hk' _ ha]

theorem isTrue_some {r : Option (V × H)} (h : isTrue r = true) : ∃ h1, r = some (.bool true, h1) := by
  unfold isTrue at h
  split at h
  · exact ⟨_, rfl⟩
  · cases h

theorem run_true {E : Nat → Option Fn} (hE : Link P g E) {n k f : Nat} (hk : g.f k = f) (h : isTrue (callN E n (.fn f) [] H.empty) = true) (W : World) :
    Calls P k #[] W (fun e W' => e = .returned (.bool true) ∧ Left0 W W') := by
  obtain ⟨h1, hh⟩ := isTrue_some h
  have hempty : ∀ i, H.empty.get i = none := by intro i; simp [H.empty, H.get, Tr.get]
  have hr : HR P g (fun _ => none) H.empty W := ⟨fun _ _ => rfl, fun i b hb => (by rw [hempty] at hb; cases hb), fun i j bi bj a x y hb => (by rw [hempty] at hb; cases hb)⟩
  obtain ⟨_, c2⟩ := callN_ok hE n _ _ _ _ _ hh (fun _ => none) W hr #[] .nil k hk
  intro cs
  obtain ⟨fr, μ1, w1, x, r1, r2, r3, r4, r5, r6⟩ := c2 cs
  cases r6
  exact ⟨.returned (.bool true), w1, fr, ⟨rfl, left0_of_ext r5 (fun i blk hb => by rw [hempty] at hb; cases hb)⟩, r1, r2, r3⟩

/-- the functions of a program, translated where they are asked for -/
noncomputable def Edyn (P : Program) (f : Nat) : Option Fn := match P.funcs[f]? with
  | some F => trF P id F
  | none => none
theorem link_dyn (P : Program) : Link P ⟨id, id, fun _ _ h => h⟩ (Edyn P) := by
  intro f fn h
  unfold Edyn at h
  change (match P.funcs[f]? with | some F => trF P id F | none => none) = some fn at h
  cases hF : P.funcs[f]? with
  | none => rw [hF] at h; cases h
  | some F => rw [hF] at h; exact ⟨F, rfl, h⟩
theorem runs_true (P : Program) (n k : Nat) (h : isTrue (callN (Edyn P) n (.fn k) [] H.empty) = true) (W : World) : Calls P k #[] W (fun e W' => e = .returned (.bool true) ∧ Left0 W W') :=
  run_true (link_dyn P) (g := ⟨id, id, fun _ _ h => h⟩) rfl h W
end Go.Eng

/-
  ENGINE, part 26: calls with data only, known beforehand. Own work.
-/
namespace Go.Eng
open Go

mutual
/-- no place of the heap is named -/
def dataV : V → Bool
  | .bool _ => true
  | .int _ _ => true
  | .str _ => true
  | .agg l => datas l
  | .tup l => datas l
  | _ => false
def datas : List V → Bool
  | [] => true
  | v :: r => dataV v && datas r
end

variable {P : Program} {g : Gn} {μ μ' : Mu} {sz : Sz}
theorem VR.free' : (∀ v x, VR g μ sz v x → dataV v = true → VR g μ' sz v x) ∧ (∀ l m, VRs g μ sz l m → datas l = true → VRs g μ' sz l m) := by
  have go : ∀ v x, VR g μ sz v x → dataV v = true → VR g μ' sz v x := by
    intro v x h
    exact h.rec (motive_1 := fun v x _ => dataV v = true → VR g μ' sz v x) (motive_2 := fun l m _ => datas l = true → VRs g μ' sz l m)
      (fun b _ => .bool b) (fun k n _ => .int k n) (fun s bs h _ => .str s bs h) (fun hd => by simp [dataV] at hd) (fun i o b base h hd => by simp [dataV] at hd) (fun c e hc hd => by simp [dataV] at hd)
      (by intros; rename_i hd; simp [dataV] at hd) (by intros; rename_i hd; simp [dataV] at hd) (fun hd => by simp [dataV] at hd) (by intros; rename_i hd; simp [dataV] at hd)
      (by intros; rename_i hd; simp [dataV] at hd) (by intros; rename_i hd; simp [dataV] at hd) (fun hd => by simp [dataV] at hd) (by intros; rename_i hd; simp [dataV] at hd) (fun hd => by simp [dataV] at hd)
      (fun cs cs' h ih hd => .agg cs cs' (ih (by simpa [dataV] using hd))) (fun cs cs' h ih hd => .tup cs cs' (ih (by simpa [dataV] using hd)))
      (fun _ => .nil) (fun v x l m h h1 ih ih1 hd => by
        simp only [datas, Bool.and_eq_true] at hd
        exact .cons v x l m (ih hd.1) (ih1 hd.2))
  refine ⟨go, ?_⟩
  intro l
  induction l with
  | nil => intro m h _; cases h; exact .nil
  | cons v r ih =>
    intro m h hd
    cases h with
    | cons _ x _ m h h1 =>
      simp only [datas, Bool.and_eq_true] at hd
      exact .cons v x r m (go v x h hd.1) (ih m h1 hd.2)

structure Memo where
  f : Nat
  args : List V
  v : V
def MemoOk (P : Program) (g : Gn) (m : Memo) : Prop := ∀ h, CallOk P g (.fn m.f) m.args h m.v h

theorem memo_ok {Q : Orc} (hQ : QOk P g Q) {f : Nat} {args : List V} {v : V} {h1 : H} (ha : datas args = true) (hv : dataV v = true) (hc : Q (.fn f) args H.empty = some (v, h1)) : MemoOk P g ⟨f, args, v⟩ := by
  intro h μ w hr xs hxs f' hf'
  have hempty : ∀ i, H.empty.get i = none := by intro i; simp [H.empty, H.get, Tr.get]
  have hr0 : HR P g (fun _ => none) H.empty w := ⟨fun _ _ => rfl, fun i b hb => (by rw [hempty] at hb; cases hb), fun i j bi bj a x y hb => (by rw [hempty] at hb; cases hb)⟩
  obtain ⟨c1, c2⟩ := hQ _ _ _ _ _ hc (fun _ => none) w hr0 xs (VR.free'.2 _ _ hxs ha) f' hf'
  refine ⟨c1, fun cs => ?_⟩
  obtain ⟨fr, μ1, w1, x, r1, r2, r3, r4, r5, r6⟩ := c2 cs
  have hk : ∀ b, b < w.heap.size → w1.heap[b]? = w.heap[b]? := fun b hb => r5.keep b hb (fun i blk base hg => by rw [hempty] at hg; cases hg)
  refine ⟨fr, μ, w1, x, r1, r2, r3, ⟨hr.fresh, fun i b hb => ?_, hr.inj⟩, ⟨Mu.le_refl _, r5.size, r5.sz, fun b hb _ => hk b hb, fun i blk b base h1 h3 _ => ⟨i, blk, base, h1, id, h3⟩, Nat.le_refl _, r5.io, fun _ _ => rfl⟩, VR.free'.1 _ _ r6 hv⟩
  obtain ⟨a, base, hm, hb'⟩ := hr.blk i b hb
  exact ⟨a, base, hm, hb'.mono (Mu.le_refl _) r5.sz (hk a hb'.lt)⟩

def hit (m : Memo) (args : List V) : Tgt → Bool
  | .fn f => Nat.beq f m.f && V.beqs args m.args
  | .yld _ => false
def look : List Memo → Tgt → List V → Option V
  | [], _, _ => none
  | m :: r, t, args => bif hit m args t then some m.v else look r t args
theorem look_ok {ms : List Memo} (hm : ∀ m ∈ ms, MemoOk P g m) {t : Tgt} {args : List V} {v : V} (hl : look ms t args = some v) (h : H) : CallOk P g t args h v h := by
  induction ms with
  | nil => cases hl
  | cons m r ih =>
    unfold look at hl
    cases hh : hit m args t with
    | false => rw [hh] at hl; exact ih (fun m hm' => hm m (List.mem_cons_of_mem _ hm')) hl
    | true =>
      rw [hh] at hl
      cases hl
      cases t with
      | yld l => cases hh
      | fn f =>
        simp only [hit, Bool.and_eq_true] at hh
        have e1 : f = m.f := Nat.eq_of_beq_eq_true hh.1
        have e2 : args = m.args := by
          have := V.beq_true (.agg args) (.agg m.args) hh.2
          injection this
        subst e1
        rw [e2]
        exact hm m (List.mem_cons_self ..) h
/-- the evaluator, with calls that are known -/
noncomputable def callS (E : Nat → Option Fn) (ms : List Memo) (n : Nat) (ih : Orc) : Orc := fun t args h => match look ms t args with
  | some v => some (v, h)
  | none => match t with
    | .fn f => cFn E ih n f args h
    | .yld l => cYld ih n l args h
noncomputable def callM (E : Nat → Option Fn) (ms : List Memo) (n : Nat) : Orc :=
  Nat.rec (motive := fun _ => Orc) (fun _ _ _ => none) (fun n ih => callS E ms n ih) n
theorem callM_ok {E : Nat → Option Fn} (hE : Link P g E) {ms : List Memo} (hm : ∀ m ∈ ms, MemoOk P g m) : ∀ n, QOk P g (callM E ms n) := by
  intro n
  induction n with
  | zero => intro t args h v h1 hc; cases hc
  | succ n ih =>
    intro t args h v h1 hc
    change callS E ms n (callM E ms n) t args h = some (v, h1) at hc
    unfold callS at hc
    cases hl : look ms t args with
    | some v' =>
      rw [hl] at hc
      cases hc
      exact look_ok hm hl h
    | none =>
      rw [hl] at hc
      cases t with
      | fn f => exact cFn_ok hE ih (n := n) hc
      | yld l => exact cYld_ok ih (n := n) hc
/-- an answer, compared -/
def says (v : V) : Option (V × H) → Bool
  | some (v', _) => V.beq v' v
  | none => false
theorem says_some {v : V} {r : Option (V × H)} (h : says v r = true) : ∃ h1, r = some (v, h1) := by
  cases r with
  | none => cases h
  | some x => obtain ⟨v', h1⟩ := x; exact ⟨h1, by rw [V.beq_true v' v h]⟩
/-- a call that is known, by a run -/
theorem memo_dyn (P : Program) {ms : List Memo} (hm : ∀ m ∈ ms, MemoOk P ⟨id, id, fun _ _ h => h⟩ m) (n : Nat) (m : Memo) (h : (datas m.args && dataV m.v && says m.v (callM (Edyn P) ms n (.fn m.f) m.args H.empty)) = true) : MemoOk P ⟨id, id, fun _ _ h => h⟩ m := by
  simp only [Bool.and_eq_true] at h
  obtain ⟨h1, e⟩ := says_some h.2
  exact memo_ok (callM_ok (link_dyn P) hm n) h.1.1 h.1.2 e
theorem runs_trueM (P : Program) {ms : List Memo} (hm : ∀ m ∈ ms, MemoOk P ⟨id, id, fun _ _ h => h⟩ m) (n k : Nat) (h : isTrue (callM (Edyn P) ms n (.fn k) [] H.empty) = true) (W : World) : Calls P k #[] W (fun e W' => e = .returned (.bool true) ∧ Left0 W W') := by
  obtain ⟨h1, hh⟩ := isTrue_some h
  have hempty : ∀ i, H.empty.get i = none := by intro i; simp [H.empty, H.get, Tr.get]
  have hr : HR P ⟨id, id, fun _ _ h => h⟩ (fun _ => none) H.empty W := ⟨fun _ _ => rfl, fun i b hb => (by rw [hempty] at hb; cases hb), fun i j bi bj a x y hb => (by rw [hempty] at hb; cases hb)⟩
  obtain ⟨_, c2⟩ := callM_ok (link_dyn P) hm n _ _ _ _ _ hh (fun _ => none) W hr #[] .nil k rfl
  intro cs
  obtain ⟨fr, μ1, w1, x, r1, r2, r3, r4, r5, r6⟩ := c2 cs
  cases r6
  exact ⟨.returned (.bool true), w1, fr, ⟨rfl, left0_of_ext r5 (fun i blk hb => by rw [hempty] at hb; cases hb)⟩, r1, r2, r3⟩
end Go.Eng
