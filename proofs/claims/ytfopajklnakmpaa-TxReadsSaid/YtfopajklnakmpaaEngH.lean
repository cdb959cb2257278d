/- The evaluator by which closed calls are run, part H: own work.
-/
import Derived.Test.YtfopajklnakmpaaEngG
set_option linter.unusedVariables false
set_option linter.unusedSimpArgs false
set_option linter.unusedSectionVars false
/-
  ENGINE, part 27: calls that are known beforehand, in general; calls of data and of slices' and pointers' cells. Own work.
-/
namespace Go.Eng
open Go

variable {P : Program} {g : Gn}

/-- the evaluator, with calls that 'X' knows -/
noncomputable def callSX (E : Nat → Option Fn) (X : Orc) (n : Nat) (ih : Orc) : Orc := fun t args h => match X t args h with
  | some r => some r
  | none => match t with
    | .fn f => cFn E ih n f args h
    | .yld l => cYld ih n l args h
noncomputable def callX (E : Nat → Option Fn) (X : Orc) (n : Nat) : Orc :=
  Nat.rec (motive := fun _ => Orc) (fun _ _ _ => none) (fun n ih => callSX E X n ih) n
theorem callX_ok {E : Nat → Option Fn} (hE : Link P g E) {X : Orc} (hX : QOk P g X) : ∀ n, QOk P g (callX E X n) := by
  intro n
  induction n with
  | zero => intro t args h v h1 hc; cases hc
  | succ n ih =>
    intro t args h v h1 hc
    change callSX E X n (callX E X n) t args h = some (v, h1) at hc
    unfold callSX at hc
    cases hl : X t args h with
    | some r =>
      rw [hl] at hc
      cases hc
      exact hX _ _ _ _ _ hl
    | none =>
      rw [hl] at hc
      cases t with
      | fn f => exact cFn_ok hE ih (n := n) hc
      | yld l => exact cYld_ok ih (n := n) hc

def noX : Orc := fun _ _ _ => none
theorem noX_ok : QOk P g noX := by intro t args h v h1 hc; cases hc
def orX (X Y : Orc) : Orc := fun t args h => match X t args h with
  | some r => some r
  | none => Y t args h
theorem orX_ok {X Y : Orc} (hX : QOk P g X) (hY : QOk P g Y) : QOk P g (orX X Y) := by
  intro t args h v h1 hc
  unfold orX at hc
  cases hl : X t args h with
  | some r => rw [hl] at hc; cases hc; exact hX _ _ _ _ _ hl
  | none => rw [hl] at hc; exact hY _ _ _ _ _ hc

/-! ### Calls by content -/
/-- an argument: data, or a slice, or a pointer, of cells of data -/
inductive Pa where
  | d (v : V)
  | s (cells : List V) (len esz : Nat) (cap : Option Nat)
  | p (cells : List V)

def okP : Pa → Bool
  | .d v => dataV v
  | .s cells len esz _ => datas cells && Nat.beq cells.length (len * esz) && Nat.blt 0 cells.length
  | .p cells => datas cells && Nat.blt 0 cells.length
def okPs : List Pa → Bool
  | [] => true
  | p :: r => okP p && okPs r
def beqC (a b : Option Nat) : Bool := match a, b with
  | none, none => true
  | some x, some y => Nat.beq x y
  | _, _ => false
noncomputable def cellsEq (h : H) (i off n : Nat) (cells : List V) : Bool := match h.get i with
  | some (.cells vs _) => match readN vs off n with
    | some l => V.beqs l cells
    | none => false
  | _ => false
noncomputable def hitP (h : H) : Pa → V → Bool
  | .d v, x => V.beq x v
  | .s cells len esz cap, x => match x with
    | .slice (some (i, off)) len' cap' esz' => Nat.beq len' len && Nat.beq esz' esz && beqC cap' cap && cellsEq h i off (len * esz) cells
    | _ => false
  | .p cells, x => match x with
    | .ptr (some (i, off)) => cellsEq h i off cells.length cells
    | _ => false
noncomputable def hitPs (h : H) : List Pa → List V → Bool
  | [], [] => true
  | p :: ps, x :: xs => hitP h p x && hitPs h ps xs
  | _, _ => false
def argP (k : Nat) : Pa → V
  | .d v => v
  | .s _ len esz cap => .slice (some (k, 0)) len cap esz
  | .p _ => .ptr (some (k, 0))
def argsP : Nat → List Pa → List V
  | _, [] => []
  | k, p :: r => argP k p :: argsP (k + 1) r
def blP (k : Nat) : Pa → List (Nat × List V)
  | .d _ => []
  | .s cells _ _ _ => [(k, cells)]
  | .p cells => [(k, cells)]
def blsP : Nat → List Pa → List (Nat × List V)
  | _, [] => []
  | k, p :: r => blP k p ++ blsP (k + 1) r

theorem takeN_some : ∀ {n : Nat} {vs l : List V}, takeN n vs = some l → l = vs.take n ∧ n ≤ vs.length := by
  intro n
  induction n with
  | zero => intro vs l h; cases h; simp
  | succ n ih =>
    intro vs l h
    cases vs with
    | nil => cases h
    | cons v r =>
      simp only [takeN] at h
      cases h1 : takeN n r with
      | none => rw [h1] at h; cases h
      | some l' =>
        rw [h1] at h
        cases h
        obtain ⟨e, h2⟩ := ih h1
        subst e
        simp only [List.take_succ_cons, List.length_cons]
        exact ⟨trivial, by omega⟩

theorem cellsEq_ok {h : H} {i off n : Nat} {cells : List V} (he : cellsEq h i off n cells = true) (hn0 : 0 < cells.length) (hd : datas cells = true) {μ : Mu} {w : World} (hr : HR P g μ h w) (μ0 : Mu) :
    ∃ b base c e fz, μ i = some (b, base) ∧ w.heap[b]? = some (.cells c e fz) ∧ BR P g μ0 w (.cells cells .ro) b (base + off) := by
  unfold cellsEq at he
  cases hg : h.get i with
  | none => rw [hg] at he; cases he
  | some blk =>
    rw [hg] at he
    cases blk with
    | cells vs m =>
      simp only at he
      cases hn : readN vs off n with
      | none => rw [hn] at he; cases he
      | some l =>
        rw [hn] at he
        simp only at he
        have e2 : l = cells := by
          have := V.beq_true (.agg l) (.agg cells) he
          injection this
        subst e2
        obtain ⟨b, base, h1, c, e, fz, h2, h3, h4, _, _⟩ := hr.blk i _ hg
        obtain ⟨h5, h6⟩ := takeN_some hn
        rw [List.length_drop] at h6
        refine ⟨b, base, c, e, fz, h1, h2, c, e, fz, h2, ?_, fun j v hj => ?_, fun hh => (by cases hh), fun hh => (by cases hh)⟩
        · rw [h5] at hn0 ⊢
          simp only [List.length_take, List.length_drop] at hn0 ⊢
          omega
        · have hv : dataV v = true := by
            clear h5 hn he h4 h3 hr hn0
            induction l generalizing j with
            | nil => simp at hj
            | cons u r ih =>
              simp only [datas, Bool.and_eq_true] at hd
              cases j with
              | zero => simp at hj; subst hj; exact hd.1
              | succ j => exact ih hd.2 j (by simpa using hj)
          have hj' : vs[off + j]? = some v := by
            rw [h5, List.getElem?_take] at hj
            split at hj
            · rwa [List.getElem?_drop] at hj
            · cases hj
          obtain ⟨x, hx, hvr⟩ := h4 _ v hj'
          refine ⟨x, ?_, VR.free'.1 _ _ hvr hv⟩
          rw [← hx]; congr 1; omega
    | loop => cases he
    | defers => cases he

theorem hitPs_ok {h : H} {μ : Mu} {w : World} (hr : HR P g μ h w) : ∀ (ps : List Pa) (args : List V) (xs : List Value) (k : Nat) (μ0 : Mu), okPs ps = true → hitPs h ps args = true → VRs g μ (szOf w) args xs → (∀ i, k ≤ i → μ0 i = none) →
    ∃ μ1, Mu.le μ0 μ1 ∧ (∀ i, k + ps.length ≤ i → μ1 i = none) ∧ VRs g μ1 (szOf w) (argsP k ps) xs ∧ (∀ x ∈ blsP k ps, BRo P g μ1 w x) := by
  intro ps
  induction ps with
  | nil =>
    intro args xs k μ0 _ hh hx h0
    cases args with
    | nil => cases hx; exact ⟨μ0, Mu.le_refl _, h0, .nil, fun x hx => by cases hx⟩
    | cons => cases hh
  | cons p ps ih =>
    intro args xs k μ0 hok hh hx h0
    cases args with
    | nil => cases hh
    | cons a args =>
    cases hx with
    | cons _ x _ xs hx1 hx2 =>
    simp only [okPs, hitPs, Bool.and_eq_true] at hok hh
    have step : ∃ μ1, Mu.le μ0 μ1 ∧ (∀ i, k + 1 ≤ i → μ1 i = none) ∧ VR g μ1 (szOf w) (argP k p) x ∧ (∀ y ∈ blP k p, BRo P g μ1 w y) := by
      cases p with
      | d v =>
        have e : a = v := V.beq_true _ _ hh.1
        subst e
        exact ⟨μ0, Mu.le_refl _, fun i hi => h0 i (by omega), VR.free'.1 _ _ hx1 hok.1, fun y hy => by cases hy⟩
      | s cells len esz cap =>
        have hh1 := hh.1
        cases a <;> (try (cases hh1; done))
        rename_i ao len' cap' esz'
        cases ao <;> (try (cases hh1; done))
        rename_i io
        obtain ⟨i, off⟩ := io
        simp only [hitP, Bool.and_eq_true] at hh1
        obtain ⟨⟨⟨e1, e2⟩, e3⟩, e4⟩ := hh1
        have e1 := Nat.eq_of_beq_eq_true e1
        have e2 := Nat.eq_of_beq_eq_true e2
        subst e1; subst e2
        have e3' : cap' = cap := by
          cases cap' <;> cases cap <;> simp only [beqC, reduceCtorEq] at e3
          · rfl
          · rw [Nat.eq_of_beq_eq_true e3]
        subst e3'
        have hok1 := hok.1
        simp only [okP, Bool.and_eq_true] at hok1
        have hpos : 0 < cells.length := by simpa using hok1.2
        have hlen : cells.length = len' * esz' := Nat.eq_of_beq_eq_true hok1.1.2
        cases hx1 with
        | slc _ _ _ _ _ b base capR n hm hs hn hl hc =>
          obtain ⟨b', base', c, e, fz, h1, h2, h3⟩ := cellsEq_ok (P := P) e4 hpos hok1.1.1 hr (μ0.add k (b, base + off))
          rw [hm] at h1
          cases h1
          refine ⟨μ0.add k (b, base + off), Mu.le_add (h0 k (Nat.le_refl _)), fun i hi => by rw [Mu.add_other _ _ (by omega)]; exact h0 i (by omega), ?_, fun y hy => ?_⟩
          · have := VR.slc (g := g) (μ := μ0.add k (b, base + off)) (sz := szOf w) k 0 len' cap' esz' b (base + off) capR n (Mu.add_same _ _ _) hs (by omega) hl hc
            simpa [argP] using this
          · simp only [blP, List.mem_singleton] at hy
            subst hy
            exact ⟨b, base + off, Mu.add_same _ _ _, h3⟩
        | slc0 => exfalso; rw [Nat.zero_mul] at hlen; omega
      | p cells =>
        have hh1 := hh.1
        cases a <;> (try (cases hh1; done))
        rename_i ao
        cases ao <;> (try (cases hh1; done))
        rename_i io
        obtain ⟨i, off⟩ := io
        simp only [hitP] at hh1
        have hok1 := hok.1
        simp only [okP, Bool.and_eq_true] at hok1
        cases hx1 with
        | ptr _ _ b base hm =>
          obtain ⟨b', base', c, e, fz, h1, h2, h3⟩ := cellsEq_ok (P := P) hh1 (by simpa using hok1.2) hok1.1 hr (μ0.add k (b, base + off))
          rw [hm] at h1
          cases h1
          refine ⟨μ0.add k (b, base + off), Mu.le_add (h0 k (Nat.le_refl _)), fun i hi => by rw [Mu.add_other _ _ (by omega)]; exact h0 i (by omega), ?_, fun y hy => ?_⟩
          · have := VR.ptr (g := g) (μ := μ0.add k (b, base + off)) (sz := szOf w) k 0 b (base + off) (Mu.add_same _ _ _)
            simpa [argP] using this
          · simp only [blP, List.mem_singleton] at hy
            subst hy
            exact ⟨b, base + off, Mu.add_same _ _ _, h3⟩
    obtain ⟨μ1, l1, f1, v1, b1⟩ := step
    obtain ⟨μ2, l2, f2, v2, b2⟩ := ih args xs (k + 1) μ1 hok.2 hh.2 hx2 f1
    refine ⟨μ2, Mu.le_trans l1 l2, fun i hi => f2 i (by simp only [List.length_cons] at hi; omega), .cons _ _ _ _ (v1.mono l2 (Sz.le_refl _)) v2, fun y hy => ?_⟩
    simp only [blsP] at hy
    rcases List.mem_append.1 hy with hy | hy
    · exact (b1 y hy).mono l2
    · exact b2 y hy

structure Kn where
  f : Nat
  ps : List Pa
  v : V
def KnOk (P : Program) (g : Gn) (m : Kn) : Prop := ∀ args h, hitPs h m.ps args = true → CallOk P g (.fn m.f) args h m.v h

theorem kn_ok {Q : Orc} (hQ : QOk P g Q) {f : Nat} {ps : List Pa} {v : V} {h1 : H} (ha : okPs ps = true) (hv : dataV v = true) (hc : Q (.fn f) (argsP 0 ps) (mkH (blsP 0 ps) ps.length) = some (v, h1)) : KnOk P g ⟨f, ps, v⟩ := by
  intro args h hh μ w hr xs hxs f' hf'
  obtain ⟨μ0, _, f0, v0, b0⟩ := hitPs_ok hr ps args xs.toList 0 (fun _ => none) ha hh hxs (fun _ _ => rfl)
  have hr0 : HR P g μ0 (mkH (blsP 0 ps) ps.length) w := by
    refine ⟨fun i hi => f0 i (by simpa [mkH] using hi), fun i b hb => ?_, fun i j bi bj a x y hb _ ho => ?_⟩
    · obtain ⟨x, h2, rfl, rfl⟩ := mkB_get _ i b hb
      obtain ⟨c, base, h3, h4⟩ := b0 x h2
      exact ⟨c, base, h3, h4⟩
    · obtain ⟨x, h2, rfl, rfl⟩ := mkB_get _ i bi hb
      cases ho
  obtain ⟨c1, c2⟩ := hQ _ _ _ _ _ hc μ0 w hr0 xs v0 f' hf'
  refine ⟨c1, fun cs => ?_⟩
  obtain ⟨fr, μ1, w1, x, r1, r2, r3, r4, r5, r6⟩ := c2 cs
  have hk : ∀ b, b < w.heap.size → w1.heap[b]? = w.heap[b]? := fun b hb => r5.keep b hb (fun i blk base hg ho => by
    obtain ⟨x, h2, rfl, rfl⟩ := mkB_get _ i blk hg
    cases ho)
  refine ⟨fr, μ, w1, x, r1, r2, r3, ⟨hr.fresh, fun i b hb => ?_, hr.inj⟩, ⟨Mu.le_refl _, r5.size, r5.sz, fun b hb _ => hk b hb, fun i blk b base h1 h3 _ => ⟨i, blk, base, h1, id, h3⟩, Nat.le_refl _, r5.io, fun _ _ => rfl⟩, VR.free'.1 _ _ r6 hv⟩
  obtain ⟨a, base, hm, hb'⟩ := hr.blk i b hb
  exact ⟨a, base, hm, hb'.mono (Mu.le_refl _) r5.sz (hk a hb'.lt)⟩

noncomputable def lookK : List Kn → List V → H → Option V
  | [], _, _ => none
  | m :: r, args, h => bif hitPs h m.ps args then some m.v else lookK r args h
/-- known calls of one function -/
noncomputable def fnX (f : Nat) (ms : List Kn) : Orc := fun t args h => match t with
  | .fn f' => bif Nat.beq f' f then (match lookK ms args h with | some v => some (v, h) | none => none) else none
  | .yld _ => none
theorem lookK_ok {f : Nat} : ∀ {ms : List Kn}, (∀ m ∈ ms, m.f = f ∧ KnOk P g m) → ∀ {args : List V} {h : H} {v : V}, lookK ms args h = some v → CallOk P g (.fn f) args h v h := by
  intro ms
  induction ms with
  | nil => intro _ args h v hl; cases hl
  | cons m r ih =>
    intro hm args h v hl
    unfold lookK at hl
    cases hh : hitPs h m.ps args with
    | false => rw [hh] at hl; exact ih (fun m hm' => hm m (List.mem_cons_of_mem _ hm')) hl
    | true =>
      rw [hh] at hl
      cases hl
      obtain ⟨e, k⟩ := hm m (List.mem_cons_self ..)
      rw [← e]
      exact k args h hh
theorem fnX_ok {f : Nat} {ms : List Kn} (hm : ∀ m ∈ ms, m.f = f ∧ KnOk P g m) : QOk P g (fnX f ms) := by
  intro t args h v h1 hc
  unfold fnX at hc
  cases t with
  | yld l => cases hc
  | fn f' =>
    simp only at hc
    cases hb : Nat.beq f' f with
    | false => rw [hb] at hc; cases hc
    | true =>
      rw [hb] at hc
      obtain rfl := Nat.eq_of_beq_eq_true hb
      cases hl : lookK ms args h with
      | none => simp only [hl, cond_true] at hc; cases hc
      | some v' => simp only [hl, cond_true] at hc; cases hc; exact lookK_ok hm hl

/-- a call that is known, by a run -/
theorem kn_dyn (P : Program) {X : Orc} (hX : QOk P ⟨id, id, fun _ _ h => h⟩ X) (n : Nat) (m : Kn) (h : (okPs m.ps && dataV m.v && says m.v (callX (Edyn P) X n (.fn m.f) (argsP 0 m.ps) (mkH (blsP 0 m.ps) m.ps.length))) = true) : KnOk P ⟨id, id, fun _ _ h => h⟩ m := by
  simp only [Bool.and_eq_true] at h
  obtain ⟨h1, e⟩ := says_some h.2
  exact kn_ok (callX_ok (link_dyn P) hX n) h.1.1 h.1.2 e
theorem runs_trueX (P : Program) {X : Orc} (hX : QOk P ⟨id, id, fun _ _ h => h⟩ X) (n k : Nat) (h : isTrue (callX (Edyn P) X n (.fn k) [] H.empty) = true) (W : World) : Calls P k #[] W (fun e W' => e = .returned (.bool true) ∧ Left0 W W') := by
  obtain ⟨h1, hh⟩ := isTrue_some h
  have hempty : ∀ i, H.empty.get i = none := by intro i; simp [H.empty, H.get, Tr.get]
  have hr : HR P ⟨id, id, fun _ _ h => h⟩ (fun _ => none) H.empty W := ⟨fun _ _ => rfl, fun i b hb => (by rw [hempty] at hb; cases hb), fun i j bi bj a x y hb => (by rw [hempty] at hb; cases hb)⟩
  obtain ⟨_, c2⟩ := callX_ok (link_dyn P) hX n _ _ _ _ _ hh (fun _ => none) W hr #[] .nil k rfl
  intro cs
  obtain ⟨fr, μ1, w1, x, r1, r2, r3, r4, r5, r6⟩ := c2 cs
  cases r6
  exact ⟨.returned (.bool true), w1, fr, ⟨rfl, left0_of_ext r5 (fun i blk hb => by rw [hempty] at hb; cases hb)⟩, r1, r2, r3⟩
end Go.Eng

/-
  ENGINE, part 28: equations of the evaluator with known calls; ranges over functions. Own work.
-/
namespace Go.Eng
open Go
set_option linter.unusedVariables false
section
variable {E : Nat → Option Fn} {X : Orc} {n : Nat}
theorem x_known {t : Tgt} {args : List V} {h : H} {r : V × H} (hx : X t args h = some r) : callX E X (n + 1) t args h = some r := by
  show callSX E X n (callX E X n) t args h = _
  unfold callSX; rw [hx]
theorem x_cfn {f N : Nat} {rs : List Res} {body : C} (he : E f = some ⟨N, rs, body⟩) (args : List V) (h : H) (hl : args.length ≤ N) (hx : X (.fn f) args h = none) :
    callX E X (n + 1) (.fn f) args h = fnEnd rs (evC (callX E X n) N n none body ⟨ofList 0 args .e, [], h⟩) := by
  show callSX E X n (callX E X n) (.fn f) args h = _
  unfold callSX; rw [hx]
  show cFn E (callX E X n) n f args h = _
  unfold cFn
  rw [he]
  simp only
  rw [show Nat.ble args.length N = true from Nat.ble_eq.mpr hl]; rfl
theorem x_yld {l : Nat} {args : List V} {h : H} (hx : X (.yld l) args h = none) : callX E X (n + 1) (.yld l) args h = cYld (callX E X n) n l args h := by
  show callSX E X n (callX E X n) (.yld l) args h = _
  unfold callSX; rw [hx]
end
section
variable {Q : Orc} {N n : Nat}
theorem s_range (f : O) (ps : List Nat) (asg body : C) (T : Tr V) (D : List Nat) (h : H) : evC Q N n none (.rangeF f ps asg body) ⟨T, D, h⟩ =
    rangeEnd (h.next + 1) T (h.next :: D) (callF Q (.yld (h.next + 1)) (evO T f) ((h.new .defers).new (.loop 0 none N T ps asg body h.next))) := _root_.id rfl
theorem s_callF (a : V) (f : Nat) (first caps : List V) (h : H) : callF Q a (.fn f first caps) h = Q (.fn f) (first ++ ([a] ++ caps)) h := _root_.id rfl
/-- a round of a range over a function -/
noncomputable def yE1 (Q : Orc) (n l : Nat) (args : List V) (h : H) (b : Option Blk) : Option (V × H) := match b with
  | some (.loop st _ N T ps asg body dd) => match st with
    | 0 => match setPs T ps args with
      | none => none
      | some T' => yldMid (evC Q N n (some l) body) l (evC Q N n (some l) asg ⟨T', [], h⟩)
    | _ => none
  | _ => none
@[congr] theorem yE1_congr {Q : Orc} {n l : Nat} {args : List V} {h : H} {b b' : Option Blk} (e : b = b') : yE1 Q n l args h b = yE1 Q n l args h b' := by rw [e]
theorem y_cyld (l : Nat) (args : List V) (h : H) : cYld Q n l args h = yE1 Q n l args h (h.get l) := _root_.id rfl
theorem y_ready (l : Nat) (args : List V) (h : H) (j : Option Jump) (N : Nat) (T : Tr V) (ps : List Nat) (asg body : C) (dd : Nat) :
    yE1 Q n l args h (some (.loop 0 j N T ps asg body dd)) = (match setPs T ps args with | none => none | some T' => yldMid (evC Q N n (some l) body) l (evC Q N n (some l) asg ⟨T', [], h⟩)) := _root_.id rfl
theorem y_set2 (T : Tr V) (p q : Nat) (v w : V) : setPs T [p, q] [v, w] = some ((T.set p (some v)).set q (some w)) := _root_.id rfl
theorem y_set1 (T : Tr V) (p : Nat) (v : V) : setPs T [p] [v] = some (T.set p (some v)) := _root_.id rfl
noncomputable def yE2 (b : K) (l : Nat) (T : Tr V) (D : List Nat) (h : H) (bk : Option Blk) : Option (V × H) := match bk with
  | some (.loop s j N T0 ps asg body dd) => match s with
    | 0 => yldEnd l (b ⟨T, D, h.put l (.loop 1 j N T0 ps asg body dd)⟩)
    | _ => none
  | _ => none
@[congr] theorem yE2_congr {b : K} {l : Nat} {T : Tr V} {D : List Nat} {h : H} {bk bk' : Option Blk} (e : bk = bk') : yE2 b l T D h bk = yE2 b l T D h bk' := by rw [e]
theorem y_mid (b : K) (l : Nat) (T : Tr V) (D : List Nat) (h : H) : yldMid b l (some (.normal, ⟨T, D, h⟩)) = yE2 b l T D h (h.get l) := _root_.id rfl
theorem y_busy (b : K) (l : Nat) (T : Tr V) (D : List Nat) (h : H) (j : Option Jump) (N : Nat) (T0 : Tr V) (ps : List Nat) (asg body : C) (dd : Nat) :
    yE2 b l T D h (some (.loop 0 j N T0 ps asg body dd)) = yldEnd l (b ⟨T, D, h.put l (.loop 1 j N T0 ps asg body dd)⟩) := _root_.id rfl
noncomputable def yE3 (l : Nat) (e : Ex) (h : H) (bk : Option Blk) : Option (V × H) := match bk with
  | some (.loop _ _ N T ps asg body dd) => some (.bool (exJump e).isNone, h.put l (.loop (match e with | .normal => 0 | _ => 2) (exJump e) N T ps asg body dd))
  | _ => none
@[congr] theorem yE3_congr {l : Nat} {e : Ex} {h : H} {bk bk' : Option Blk} (q : bk = bk') : yE3 l e h bk = yE3 l e h bk' := by rw [q]
theorem y_end (l : Nat) (e : Ex) (T : Tr V) (h : H) : yldEnd l (some (e, ⟨T, [], h⟩)) = yE3 l e h (h.get l) := _root_.id rfl
theorem y_done (l : Nat) (e : Ex) (h : H) (s : Nat) (j : Option Jump) (N : Nat) (T : Tr V) (ps : List Nat) (asg body : C) (dd : Nat) :
    yE3 l e h (some (.loop s j N T ps asg body dd)) = some (.bool (exJump e).isNone, h.put l (.loop (match e with | .normal => 0 | _ => 2) (exJump e) N T ps asg body dd)) := _root_.id rfl
theorem y_jn : exJump .normal = none := _root_.id rfl
theorem y_jr : exJump .ret = some .ret := _root_.id rfl
theorem y_je (i : Nat) : exJump (.exit i) = some (.exit i) := _root_.id rfl
noncomputable def rE (l : Nat) (T : Tr V) (D : List Nat) (h : H) (bk : Option Blk) : Option (Ex × St) := match bk with
  | some (.loop st jump _ _ _ _ _ _) => match st with
    | 1 => none
    | _ => some (jumpEx jump, ⟨T, D, h.del l⟩)
  | _ => none
@[congr] theorem rE_congr {l : Nat} {T : Tr V} {D : List Nat} {h : H} {bk bk' : Option Blk} (q : bk = bk') : rE l T D h bk = rE l T D h bk' := by rw [q]
theorem r_end (l : Nat) (T : Tr V) (D : List Nat) (v : V) (h : H) : rangeEnd l T D (some (v, h)) = rE l T D h (h.get l) := _root_.id rfl
theorem r_0 (l : Nat) (T : Tr V) (D : List Nat) (h : H) (j : Option Jump) (N : Nat) (T0 : Tr V) (ps : List Nat) (asg body : C) (dd : Nat) : rE l T D h (some (.loop 0 j N T0 ps asg body dd)) = some (jumpEx j, ⟨T, D, h.del l⟩) := _root_.id rfl
theorem r_2 (l : Nat) (T : Tr V) (D : List Nat) (h : H) (j : Option Jump) (N : Nat) (T0 : Tr V) (ps : List Nat) (asg body : C) (dd : Nat) : rE l T D h (some (.loop 2 j N T0 ps asg body dd)) = some (jumpEx j, ⟨T, D, h.del l⟩) := _root_.id rfl
theorem r_jn : jumpEx none = .normal := _root_.id rfl
theorem r_jr : jumpEx (some .ret) = .ret := _root_.id rfl
theorem r_je (i : Nat) : jumpEx (some (.exit i)) = .exit i := _root_.id rfl
noncomputable def delE (h : H) (d : Nat) (r : List Nat) (b : Option Blk) : Option H := match b with
  | some .defers => delD r (h.del d)
  | _ => none
@[congr] theorem delE_congr {h : H} {d : Nat} {r : List Nat} {b b' : Option Blk} (q : b = b') : delE h d r b = delE h d r b' := by rw [q]
theorem d_cons (d : Nat) (r : List Nat) (h : H) : delD (d :: r) h = delE h d r (h.get d) := _root_.id rfl
theorem d_yes (d : Nat) (r : List Nat) (h : H) : delE h d r (some .defers) = delD r (h.del d) := _root_.id rfl
theorem d_nil (h : H) : delD [] h = some h := _root_.id rfl
noncomputable def endE (rs : List Res) (T : Tr V) (r : Option H) : Option (V × H) := match r with
  | none => none
  | some h => match resVs T h rs with
    | some vs => some (tupOf vs, h)
    | none => none
@[congr] theorem endE_congr {rs : List Res} {T : Tr V} {r r' : Option H} (q : r = r') : endE rs T r = endE rs T r' := by rw [q]
theorem e_ret (rs : List Res) (T : Tr V) (D : List Nat) (h : H) : fnEnd rs (some (.ret, ⟨T, D, h⟩)) = endE rs T (delD D h) := _root_.id rfl
theorem e_normal (rs : List Res) (T : Tr V) (D : List Nat) (h : H) : fnEnd rs (some (.normal, ⟨T, D, h⟩)) = endE rs T (delD D h) := _root_.id rfl
theorem e_some (rs : List Res) (T : Tr V) (h : H) : endE rs T (some h) = (match resVs T h rs with | some vs => some (tupOf vs, h) | none => none) := _root_.id rfl
theorem e_tup0 : tupOf [] = .tup [] := _root_.id rfl
theorem s_mkfn (T : Tr V) (h : H) (f : Nat) (first caps : List O) : Eng.step (.mkfn f first caps) Q T h = some (.fn f (evOs T first) (evOs T caps), h) := _root_.id rfl
theorem c_ptr (a : Option (Nat × Nat)) : V.cells (.ptr a) = [.ptr a] := _root_.id rfl
end
end Go.Eng
