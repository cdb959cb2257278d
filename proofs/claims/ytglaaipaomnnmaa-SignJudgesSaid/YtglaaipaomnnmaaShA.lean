/- What functions of the program come to: own work. -/
import Derived.Test.YtglaaipaomnnmaaEngI
/-
  ENGINE, part 30a: functions from data to data, as known calls. Own work.
-/
namespace Go.Eng
open Go
/-- a function from data to data -/
def pureX (f : Nat) (s : List V → Option V) : Orc := fun t args h => match t with
  | .fn f' => match Nat.beq f' f with
    | true => (match s args with | some v => some (v, h) | none => none)
    | false => none
  | .yld _ => none
theorem pureX_ok {P : Program} {g : Gn} {Q : Orc} (hQ : QOk P g Q) {f : Nat} {s : List V → Option V} (hs : ∀ args v, s args = some v → datas args = true ∧ dataV v = true ∧ ∃ h1, Q (.fn f) args H.empty = some (v, h1)) : QOk P g (pureX f s) := by
  intro t args h v h1 hc
  unfold pureX at hc
  cases t with
  | yld l => cases hc
  | fn f' =>
    simp only at hc
    cases hb : Nat.beq f' f with
    | false => rw [hb] at hc; cases hc
    | true =>
      rw [hb] at hc
      obtain rfl := Nat.eq_of_beq_eq_true hb
      cases hl : s args with
      | none => simp only [hl] at hc; cases hc
      | some v' =>
        simp only [hl] at hc
        cases hc
        obtain ⟨d1, d2, h2, hq⟩ := hs args _ hl
        exact memo_ok hQ d1 d2 hq h
theorem pureX_yes {f : Nat} {s : List V → Option V} {args : List V} {v : V} (h : H) (e : s args = some v) : pureX f s (.fn f) args h = some (v, h) := by
  show (match Nat.beq f f with | true => (match s args with | some v => some (v, h) | none => none) | false => none) = _
  rw [show Nat.beq f f = true from Nat.beq_refl f, e]
theorem pureX_no {f f' : Nat} {s : List V → Option V} {args : List V} (h : H) (e : Nat.beq f' f = false) : pureX f s (.fn f') args h = none := by
  show (match Nat.beq f' f with | true => (match s args with | some v => some (v, h) | none => none) | false => none) = _
  rw [e]
theorem pureX_yld {f l : Nat} {s : List V → Option V} {args : List V} (h : H) : pureX f s (.yld l) args h = none := rfl
theorem orX_l {X Y : Orc} {t : Tgt} {args : List V} {h : H} {r : V × H} (e : X t args h = some r) : orX X Y t args h = some r := by unfold orX; rw [e]
theorem orX_r {X Y : Orc} {t : Tgt} {args : List V} {h : H} (e : X t args h = none) : orX X Y t args h = Y t args h := by unfold orX; rw [e]

theorem blt_dec' (x y : Nat) : Nat.blt x y = decide (x < y) := by
  by_cases h : x < y
  · rw [decide_eq_true h]; simpa using h
  · rw [decide_eq_false h]
    cases hb : Nat.blt x y with
    | false => rfl
    | true => exact absurd (by simpa using hb) h
end Go.Eng
/-
  ENGINE, part 33: functions from data to a slice of new cells, as known calls. Own work.
-/
namespace Go.Eng
open Go
/-- the answer: a slice of new cells, and data beside it -/
noncomputable def newV (h : H) (cells : List V) (e : V) : V × H := match cells with
  | [] => (.tup [.slice none 0 (some 0) 0, e], h)
  | c :: r => (.tup [.slice (some (h.next, 0)) (r.length + 1) none 1, e], h.new (.cells (c :: r) .sh))
noncomputable def newX (f : Nat) (s : List V → Option (List V × V)) : Orc := fun t args h => match t with
  | .fn f' => match Nat.beq f' f with
    | true => (match s args with | some (c, e) => some (newV h c e) | none => none)
    | false => none
  | .yld _ => none
theorem empty_get (i : Nat) : H.empty.get i = none := by simp [H.empty, H.get, Tr.get]
theorem newX_ok {P : Program} {g : Gn} {Q : Orc} (hQ : QOk P g Q) {f : Nat} {s : List V → Option (List V × V)}
    (hs : ∀ args c e, s args = some (c, e) → datas args = true ∧ datas c = true ∧ dataV e = true ∧
      ((c = [] ∧ ∃ h1, Q (.fn f) args H.empty = some (.tup [.slice none 0 (some 0) 0, e], h1)) ∨
       (c ≠ [] ∧ ∃ p md h1, Q (.fn f) args H.empty = some (.tup [.slice (some (p, 0)) c.length none 1, e], h1) ∧ isRo md = false ∧ h1.get p = some (.cells c md)))) : QOk P g (newX f s) := by
  intro t args h v h1 hc
  unfold newX at hc
  cases t with
  | yld l => cases hc
  | fn f' =>
    simp only at hc
    cases hb : Nat.beq f' f with
    | false => rw [hb] at hc; cases hc
    | true =>
      rw [hb] at hc
      obtain rfl := Nat.eq_of_beq_eq_true hb
      cases hl : s args with
      | none => simp only [hl] at hc; cases hc
      | some ce =>
        obtain ⟨c, e⟩ := ce
        simp only [hl] at hc
        obtain ⟨d1, d2, d3, hq⟩ := hs args c e hl
        intro μ w hr xs hxs f'' hf'
        have hr0 : HR P g (fun _ => none) H.empty w := ⟨fun _ _ => rfl, fun i b hb => (by rw [empty_get] at hb; cases hb), fun i j bi bj a x y hb => (by rw [empty_get] at hb; cases hb)⟩
        rcases hq with ⟨rfl, h2, hq⟩ | ⟨hne, p, md, h2, hq, hmd, hp⟩
        · cases hc
          obtain ⟨c1, c2⟩ := hQ _ _ _ _ _ hq (fun _ => none) w hr0 xs (VR.free'.2 _ _ hxs d1) f'' hf'
          refine ⟨c1, fun cs => ?_⟩
          obtain ⟨fr, μ1, w1, x, r1, r2, r3, r4, r5, r6⟩ := c2 cs
          have hk : ∀ b, b < w.heap.size → w1.heap[b]? = w.heap[b]? := fun b hb => r5.keep b hb (fun i blk base hg => by rw [empty_get] at hg; cases hg)
          refine ⟨fr, μ, w1, x, r1, r2, r3, ⟨hr.fresh, fun i b hb => ?_, hr.inj⟩, ⟨Mu.le_refl _, r5.size, r5.sz, fun b hb _ => hk b hb, fun i blk b base h1 h3 _ => ⟨i, blk, base, h1, id, h3⟩, Nat.le_refl _, r5.io, fun _ _ => rfl⟩, ?_⟩
          · obtain ⟨a, base, hm, hb'⟩ := hr.blk i b hb
            exact ⟨a, base, hm, hb'.mono (Mu.le_refl _) r5.sz (hk a hb'.lt)⟩
          · cases r6 with
            | tup _ cs' hv =>
              generalize hcs : cs'.toList = m at hv
              cases hv with
              | cons _ y _ m1 v1 v2 =>
                cases v1 with
                | slcN _ _ hc0 =>
                  refine .tup _ _ ?_
                  rw [hcs]
                  exact .cons _ _ _ _ (.slcN _ _ hc0) (VR.free'.2 _ _ v2 (by simp only [datas, d3, Bool.and_self]))
        · obtain ⟨c1, c2⟩ := hQ _ _ _ _ _ hq (fun _ => none) w hr0 xs (VR.free'.2 _ _ hxs d1) f'' hf'
          refine ⟨c1, fun cs => ?_⟩
          obtain ⟨fr, μ1, w1, x, r1, r2, r3, r4, r5, r6⟩ := c2 cs
          have hk : ∀ b, b < w.heap.size → w1.heap[b]? = w.heap[b]? := fun b hb => r5.keep b hb (fun i blk base hg => by rw [empty_get] at hg; cases hg)
          obtain ⟨b, base, hpb, hbr⟩ := r4.blk p _ hp
          have hnew : w.heap.size ≤ b := by
            rcases Nat.lt_or_ge b w.heap.size with hlt | hge
            · obtain ⟨i', blk', base', hi', _⟩ := r5.img p _ b base hp hpb hlt
              rw [empty_get] at hi'; cases hi'
            · exact hge
          have hfr : μ h.next = none := hr.fresh _ (Nat.le_refl _)
          have hle := Mu.le_add (x := (b, base)) hfr
          have hvh : (v, h1) = (.tup [.slice (some (h.next, 0)) c.length none 1, e], h.new (.cells c .sh)) := by
            cases c with
            | nil => exact absurd rfl hne
            | cons c0 cr => cases hc; rfl
          cases hvh
          have hbr2 : BR P g (μ.add h.next (b, base)) w1 (.cells c .sh) b base := by
            obtain ⟨cc, e0, fz, k1, k2, k3, k4, k5⟩ := hbr
            refine ⟨cc, e0, fz, k1, k2, fun j v hj => ?_, fun _ => k4 hmd, fun hx => by cases hx⟩
            obtain ⟨x, x1, x2⟩ := k3 j v hj
            refine ⟨x, x1, VR.free'.1 _ _ x2 ?_⟩
            have : ∀ (l : List V), datas l = true → ∀ (j : Nat) (v : V), l[j]? = some v → dataV v = true := by
              intro l
              induction l with
              | nil => intro _ j v hj; simp at hj
              | cons a r ih =>
                intro hd j v hj
                simp only [datas, Bool.and_eq_true] at hd
                cases j with
                | zero => simp at hj; subst hj; exact hd.1
                | succ j => simp at hj; exact ih hd.2 j v hj
            exact this c d2 j v hj
          refine ⟨fr, μ.add h.next (b, base), w1, x, r1, r2, r3, ⟨?_, ?_, ?_⟩, ⟨hle, r5.size, r5.sz, fun b hb _ => hk b hb, ?_, Nat.le_succ _, r5.io, fun i hi => Mu.add_other _ _ (by omega)⟩, ?_⟩
          · intro i hi
            have hi' : h.next + 1 ≤ i := hi
            rw [Mu.add_other _ _ (by omega)]
            exact hr.fresh i (by omega)
          · intro i bi hg
            rw [H.get_new] at hg
            split at hg
            · rename_i ee; cases hg; subst ee; exact ⟨_, _, Mu.add_same _ _ _, hbr2⟩
            · rename_i ee
              obtain ⟨a, base', hm, hbr'⟩ := hr.blk i bi hg
              exact ⟨a, base', by rw [Mu.add_other _ _ ee]; exact hm, hbr'.mono hle r5.sz (hk a hbr'.lt)⟩
          · intro i j bi bj a x y hi hj ho hmi hmj
            rw [H.get_new] at hi hj
            split at hi
            · rename_i ei; subst ei
              split at hj
              · rename_i ej; exact ej
              · rename_i ej
                rw [Mu.add_same] at hmi; rw [Mu.add_other _ _ ej] at hmj
                obtain ⟨a', base', hm, hbr'⟩ := hr.blk j bj hj
                have := hbr'.lt
                rw [hmj] at hm; cases hm; cases hmi; omega
            · rename_i ei
              split at hj
              · rename_i ej; subst ej
                rw [Mu.add_same] at hmj; rw [Mu.add_other _ _ ei] at hmi
                obtain ⟨a', base', hm, hbr'⟩ := hr.blk i bi hi
                have := hbr'.lt
                rw [hmi] at hm; cases hm; cases hmj; omega
              · rename_i ej
                rw [Mu.add_other _ _ ei] at hmi; rw [Mu.add_other _ _ ej] at hmj
                exact hr.inj i j bi bj a x y hi hj ho hmi hmj
          · intro i blk' b' base' hg hm hlt
            rw [H.get_new] at hg
            split at hg
            · rename_i ee; subst ee; rw [Mu.add_same] at hm; cases hm; omega
            · rename_i ee; rw [Mu.add_other _ _ ee] at hm; exact ⟨i, blk', base', hg, id, hm⟩
          · cases r6 with
            | tup _ cs' hv =>
              generalize hcs : cs'.toList = m at hv
              cases hv with
              | cons _ y _ m1 v1 v2 =>
                refine .tup _ _ ?_
                rw [hcs]
                refine .cons _ _ _ _ ?_ (VR.free'.2 _ _ v2 (by simp only [datas, d3, Bool.and_self]))
                generalize hL : c.length = L at v1 ⊢
                cases v1 with
                | slc _ _ _ _ _ b' base' cap' n hb' hs hn hl hc0 =>
                  rw [hpb] at hb'; cases hb'
                  exact .slc _ _ _ _ _ b base cap' n (Mu.add_same _ _ _) hs hn hl hc0
                | slc0 _ _ _ _ a base' hb' hc0 =>
                  rw [hpb] at hb'
                  exact .slc0 _ _ _ _ a base (by rw [Mu.add_same]; simp only [Option.some.injEq, Prod.mk.injEq] at hb' ⊢; exact ⟨hb'.1, trivial⟩) hc0
theorem newX_yes {f : Nat} {s : List V → Option (List V × V)} {args : List V} {c : List V} {e : V} (h : H) (q : s args = some (c, e)) : newX f s (.fn f) args h = some (newV h c e) := by
  show (match Nat.beq f f with | true => (match s args with | some (c, e) => some (newV h c e) | none => none) | false => none) = _
  rw [show Nat.beq f f = true from Nat.beq_refl f, q]
theorem newX_no {f f' : Nat} {s : List V → Option (List V × V)} {args : List V} (h : H) (e : Nat.beq f' f = false) : newX f s (.fn f') args h = none := by
  show (match Nat.beq f' f with | true => (match s args with | some (c, e) => some (newV h c e) | none => none) | false => none) = _
  rw [e]
end Go.Eng
/-
  ENGINE, part 34: functions of a slice's bytes, as known calls. Own work.
-/
namespace Go.Eng
open Go
def unB : List V → Option (List Nat)
  | [] => some []
  | .int .u8 (.ofNat a) :: r => match unB r with
    | some l => some (a :: l)
    | none => none
  | _ => none
theorem unB_some : ∀ {cs : List V} {l : List Nat}, unB cs = some l → cs = ofBytes l := by
  intro cs
  induction cs with
  | nil => intro l h; cases h; rfl
  | cons c r ih =>
    intro l h
    unfold unB at h
    split at h
    · rename_i he; cases he
    · rename_i a r' he
      cases he
      split at h
      · rename_i l' hl
        cases h
        rw [ih hl]; rfl
      · cases h
    · cases h
theorem unB_of : ∀ (l : List Nat), unB (ofBytes l) = some l := by
  intro l
  induction l with
  | nil => rfl
  | cons a r ih =>
    show (match unB (ofBytes r) with | some l => some (a :: l) | none => none) = _
    rw [ih]
/-- the bytes of a slice -/
noncomputable def rdC (n off : Nat) (b : Option Blk) : Option (List Nat) := match b with
  | some (.cells vs _) => match readN vs off n with
    | some l => unB l
    | none => none
  | _ => none
@[congr] theorem rdC_congr {n off : Nat} {b b' : Option Blk} (e : b = b') : rdC n off b = rdC n off b' := by rw [e]
noncomputable def rdB (h : H) (v : V) : Option (List Nat) := match v with
  | .slice a n _ e => match n with
    | 0 => some []
    | n + 1 => match a with
      | some (i, off) => match e with
        | 1 => rdC (n + 1) off (h.get i)
        | _ => none
      | none => none
  | _ => none
theorem rdC_of (l : List Nat) (m : Md) (n : Nat) (hn : l.length = n) : rdC n 0 (some (.cells (ofBytes l) m)) = some l := by
  have hl : (ofBytes l).length = n := by
    rw [← hn]
    clear hn
    induction l with
    | nil => rfl
    | cons a r ih => simp only [ofBytes, List.length_cons, ih]
  have : readN (ofBytes l) 0 n = some (ofBytes l) := by
    unfold readN
    rw [List.drop_zero, ← hl]
    have : ∀ vs : List V, takeN vs.length vs = some vs := by
      intro vs
      induction vs with
      | nil => rfl
      | cons v r ih => simp only [List.length_cons, takeN, ih]
    exact this _
  unfold rdC
  simp only [this, unB_of]
noncomputable def bytesX (f : Nat) (s : List Nat → Option V) : Orc := fun t args h => match t with
  | .fn f' => match Nat.beq f' f with
    | true => (match args with
      | [x] => (match rdB h x with | some l => (match s l with | some v => some (v, h) | none => none) | none => none)
      | _ => none)
    | false => none
  | .yld _ => none
theorem beqs_ofBytes (s : List Nat) : V.beqs (ofBytes s) (ofBytes s) = true := by
  induction s with
  | nil => rfl
  | cons a r ih =>
    simp only [ofBytes, V.beqs, V.beq, kindEq_self, ih, ieq_dec, decide_true, Bool.and_self]
theorem datas_ofB (l : List Nat) : datas (ofBytes l) = true := by
  induction l with
  | nil => rfl
  | cons a r ih => simp only [ofBytes, datas, dataV, ih, Bool.and_self]
theorem ofB_len (s : List Nat) : (ofBytes s).length = s.length := by
  induction s with
  | nil => rfl
  | cons a r ih => simp only [ofBytes, List.length_cons, ih]
theorem bytesX_ok {P : Program} {g : Gn} {Q : Orc} (hQ : QOk P g Q) {f : Nat} {s : List Nat → Option V}
    (hs : ∀ l v, s l = some v → dataV v = true ∧ (l = [] → ∀ a c e, ∃ h1, Q (.fn f) [.slice a 0 c e] (mkH [] 1) = some (v, h1)) ∧
      (l ≠ [] → ∀ c, ∃ h1, Q (.fn f) [.slice (some (0, 0)) l.length c 1] (mkH [(0, ofBytes l)] 1) = some (v, h1))) : QOk P g (bytesX f s) := by
  intro t args h v h1 hc
  unfold bytesX at hc
  cases t with
  | yld l => cases hc
  | fn f' =>
    simp only at hc
    cases hb : Nat.beq f' f with
    | false => rw [hb] at hc; cases hc
    | true =>
      rw [hb] at hc
      obtain rfl := Nat.eq_of_beq_eq_true hb
      cases args with
      | nil => cases hc
      | cons x r =>
        cases r with
        | cons => cases hc
        | nil =>
          simp only at hc
          cases hl : rdB h x with
          | none => rw [hl] at hc; cases hc
          | some l =>
            simp only [hl] at hc
            cases hv : s l with
            | none => simp only [hv] at hc; cases hc
            | some v' =>
              simp only [hv] at hc
              cases hc
              obtain ⟨d1, d2, d3⟩ := hs l _ hv
              unfold rdB at hl
              cases x <;> (try (cases hl; done))
              rename_i a n c e
              cases n with
              | zero =>
                cases hl
                intro μ w hr xs hxs f'' hf'
                have key : ∃ (μ0 : Mu) (a' : Option (Nat × Nat)), (∀ i, 1 ≤ i → μ0 i = none) ∧ VRs g μ0 (szOf w) [.slice a' 0 c e] xs.toList := by
                  generalize xs.toList = m at hxs
                  cases hxs with
                  | cons _ y _ m1 v1 v2 =>
                    cases v2
                    cases v1 with
                    | slcN _ _ hc0 => exact ⟨fun _ => none, none, fun _ _ => rfl, .cons _ _ _ _ (.slcN _ _ hc0) .nil⟩
                    | slc i o _ _ _ b base cap' n hb' hs' hn hl' hc0 =>
                      refine ⟨Mu.add (fun _ => none) 0 (b, base + o), some (0, 0), fun i hi => by rw [Mu.add_other _ _ (by omega)], .cons _ _ _ _ ?_ .nil⟩
                      have := VR.slc (g := g) (μ := Mu.add (fun _ => none) 0 (b, base + o)) (sz := szOf w) 0 0 0 c e b (base + o) cap' n (Mu.add_same _ _ _) hs' (by simpa using hn) hl' hc0
                      simpa using this
                    | slc0 i o _ _ a base hb' hc0 =>
                      exact ⟨Mu.add (fun _ => none) 0 (a.block, base), some (0, 0), fun i hi => by rw [Mu.add_other _ _ (by omega)], .cons _ _ _ _ (.slc0 0 0 c e a base (Mu.add_same _ _ _) hc0) .nil⟩
                obtain ⟨μ0, a', f0, v0⟩ := key
                have hempty : ∀ i, (mkH [] 1).get i = none := by intro i; simp [mkH, mkB, H.get, Tr.get]
                have hr0 : HR P g μ0 (mkH [] 1) w := ⟨fun i hi => f0 i hi, fun i b hb => (by rw [hempty] at hb; cases hb), fun i j bi bj a x y hb => (by rw [hempty] at hb; cases hb)⟩
                obtain ⟨h2, hq⟩ := d2 rfl a' c e
                obtain ⟨c1, c2⟩ := hQ _ _ _ _ _ hq μ0 w hr0 xs v0 f'' hf'
                refine ⟨c1, fun cs => ?_⟩
                obtain ⟨fr, μ1, w1, x, r1, r2, r3, r4, r5, r6⟩ := c2 cs
                have hk : ∀ b, b < w.heap.size → w1.heap[b]? = w.heap[b]? := fun b hb => r5.keep b hb (fun i blk base hg => by rw [hempty] at hg; cases hg)
                refine ⟨fr, μ, w1, x, r1, r2, r3, ⟨hr.fresh, fun i b hb => ?_, hr.inj⟩, ⟨Mu.le_refl _, r5.size, r5.sz, fun b hb _ => hk b hb, fun i blk b base h1 h3 _ => ⟨i, blk, base, h1, id, h3⟩, Nat.le_refl _, r5.io, fun _ _ => rfl⟩, VR.free'.1 _ _ r6 d1⟩
                obtain ⟨a, base, hm, hb'⟩ := hr.blk i b hb
                exact ⟨a, base, hm, hb'.mono (Mu.le_refl _) r5.sz (hk a hb'.lt)⟩
              | succ n =>
                simp only at hl
                cases a with
                | none => cases hl
                | some io =>
                  obtain ⟨i, off⟩ := io
                  simp only at hl
                  split at hl
                  · unfold rdC at hl
                    split at hl
                    · rename_i vs m hg
                      split at hl
                      · rename_i cs hrd
                        have hcs := unB_some hl
                        subst hcs
                        have hlen : l.length = n + 1 := by
                          have := (takeN_some hrd)
                          have h5 := congrArg List.length this.1
                          rw [ofB_len, List.length_take] at h5
                          have := this.2
                          omega
                        have hne : l ≠ [] := by intro h0; rw [h0] at hlen; cases hlen
                        obtain ⟨h2, hq⟩ := d3 hne c
                        have hk := kn_ok (P := P) (g := g) hQ (f := f') (ps := [.s (ofBytes l) l.length 1 c]) (v := v) (h1 := h2) (by
                          simp only [okPs, okP, datas_ofB, ofB_len, Nat.mul_one, Bool.and_true, Bool.true_and, Bool.and_eq_true]
                          exact ⟨Nat.beq_refl _, by simp [hlen]⟩) d1 (by simpa [argsP, argP, blsP, blP] using hq)
                        refine hk [.slice (some (i, off)) (n + 1) c 1] h ?_
                        simp only [hitPs, hitP, Bool.and_true, hlen, Nat.mul_one, cellsEq, hg, hrd, beqs_ofBytes]
                        have : beqC c c = true := by cases c <;> simp [beqC]
                        simp [this]
                      · cases hl
                    · cases hl
                  · cases hl
theorem bytesX_yes {f : Nat} {s : List Nat → Option V} {x v : V} {l : List Nat} (h : H) (e : rdB h x = some l) (q : s l = some v) : bytesX f s (.fn f) [x] h = some (v, h) := by
  show (match Nat.beq f f with | true => (match rdB h x with | some l => (match s l with | some v => some (v, h) | none => none) | none => none) | false => none) = _
  rw [show Nat.beq f f = true from Nat.beq_refl f, e]
  simp only [q]
theorem bytesX_no {f f' : Nat} {s : List Nat → Option V} {args : List V} (h : H) (e : Nat.beq f' f = false) : bytesX f s (.fn f') args h = none := by
  show (match Nat.beq f' f with | true => _ | false => none) = _
  rw [e]
end Go.Eng
/-
  ENGINE, part 35: calls whose arguments are known by content, and whose answer is a slice of new cells (and data beside it). Own work.
-/
namespace Go.Eng
open Go
def sliceE (s : V) (e : Option V) : V := match e with
  | none => s
  | some e => .tup [s, e]
def dataO : Option V → Bool
  | none => true
  | some e => dataV e
theorem knew_ok {P : Program} {g : Gn} {Q : Orc} (hQ : QOk P g Q) {f : Nat} {ps : List Pa} {c : List V} {e : Option V} {p : Nat} {md : Md} {cap : Option Nat} {h2 : H} (ha : okPs ps = true) (d2 : datas c = true) (d3 : dataO e = true) (_hne : c ≠ [])
    (hq : Q (.fn f) (argsP 0 ps) (mkH (blsP 0 ps) ps.length) = some (sliceE (.slice (some (p, 0)) c.length cap 1) e, h2)) (hmd : isRo md = false) (hp : h2.get p = some (.cells c md)) :
    ∀ args h, hitPs h ps args = true → CallOk P g (.fn f) args h (sliceE (.slice (some (h.next, 0)) c.length none 1) e) (h.new (.cells c .sh)) := by
  intro args h hh μ w hr xs hxs f' hf'
  obtain ⟨μ0, _, f0, v0, b0⟩ := hitPs_ok hr ps args xs.toList 0 (fun _ => none) ha hh hxs (fun _ _ => rfl)
  have hr0 : HR P g μ0 (mkH (blsP 0 ps) ps.length) w := by
    refine ⟨fun i hi => f0 i (by simpa [mkH] using hi), fun i b hb => ?_, fun i j bi bj a x y hb _ ho => ?_⟩
    · obtain ⟨x, h2, rfl, rfl⟩ := mkB_get _ i b hb
      obtain ⟨c, base, h3, h4⟩ := b0 x h2
      exact ⟨c, base, h3, h4⟩
    · obtain ⟨x, h2, rfl, rfl⟩ := mkB_get _ i bi hb
      cases ho
  obtain ⟨c1, c2⟩ := hQ _ _ _ _ _ hq μ0 w hr0 xs v0 f' hf'
  refine ⟨c1, fun cs => ?_⟩
  obtain ⟨fr, μ1, w1, x, r1, r2, r3, r4, r5, r6⟩ := c2 cs
  have hk : ∀ b, b < w.heap.size → w1.heap[b]? = w.heap[b]? := fun b hb => r5.keep b hb (fun i blk base hg ho => by
    obtain ⟨x, h2, rfl, rfl⟩ := mkB_get _ i blk hg
    cases ho)
  obtain ⟨b, base, hpb, hbr⟩ := r4.blk p _ hp
  have hnew : w.heap.size ≤ b := by
    rcases Nat.lt_or_ge b w.heap.size with hlt | hge
    · obtain ⟨i', blk', base', hi', hown, _⟩ := r5.img p _ b base hp hpb hlt
      obtain ⟨x0, _, _, rfl⟩ := mkB_get _ i' blk' hi'; have := hown (by cases md <;> first | (cases hmd; done) | rfl); cases this
    · exact hge
  have hfr : μ h.next = none := hr.fresh _ (Nat.le_refl _)
  have hle := Mu.le_add (x := (b, base)) hfr
  have hbr2 : BR P g (μ.add h.next (b, base)) w1 (.cells c .sh) b base := by
    obtain ⟨cc, e0, fz, k1, k2, k3, k4, k5⟩ := hbr
    refine ⟨cc, e0, fz, k1, k2, fun j v hj => ?_, fun _ => k4 hmd, fun hx => by cases hx⟩
    obtain ⟨x, x1, x2⟩ := k3 j v hj
    refine ⟨x, x1, VR.free'.1 _ _ x2 ?_⟩
    have : ∀ (l : List V), datas l = true → ∀ (j : Nat) (v : V), l[j]? = some v → dataV v = true := by
      intro l
      induction l with
      | nil => intro _ j v hj; simp at hj
      | cons a r ih =>
        intro hd j v hj
        simp only [datas, Bool.and_eq_true] at hd
        cases j with
        | zero => simp at hj; subst hj; exact hd.1
        | succ j => simp at hj; exact ih hd.2 j v hj
    exact this c d2 j v hj
  refine ⟨fr, μ.add h.next (b, base), w1, x, r1, r2, r3, ⟨?_, ?_, ?_⟩, ⟨hle, r5.size, r5.sz, fun b hb _ => hk b hb, ?_, Nat.le_succ _, r5.io, fun i hi => Mu.add_other _ _ (by omega)⟩, ?_⟩
  · intro i hi
    have hi' : h.next + 1 ≤ i := hi
    rw [Mu.add_other _ _ (by omega)]
    exact hr.fresh i (by omega)
  · intro i bi hg
    rw [H.get_new] at hg
    split at hg
    · rename_i ee; cases hg; subst ee; exact ⟨_, _, Mu.add_same _ _ _, hbr2⟩
    · rename_i ee
      obtain ⟨a, base', hm, hbr'⟩ := hr.blk i bi hg
      exact ⟨a, base', by rw [Mu.add_other _ _ ee]; exact hm, hbr'.mono hle r5.sz (hk a hbr'.lt)⟩
  · intro i j bi bj a x y hi hj ho hmi hmj
    rw [H.get_new] at hi hj
    split at hi
    · rename_i ei; subst ei
      split at hj
      · rename_i ej; exact ej
      · rename_i ej
        rw [Mu.add_same] at hmi; rw [Mu.add_other _ _ ej] at hmj
        obtain ⟨a', base', hm, hbr'⟩ := hr.blk j bj hj
        have := hbr'.lt
        rw [hmj] at hm; cases hm; cases hmi; omega
    · rename_i ei
      split at hj
      · rename_i ej; subst ej
        rw [Mu.add_same] at hmj; rw [Mu.add_other _ _ ei] at hmi
        obtain ⟨a', base', hm, hbr'⟩ := hr.blk i bi hi
        have := hbr'.lt
        rw [hmi] at hm; cases hm; cases hmj; omega
      · rename_i ej
        rw [Mu.add_other _ _ ei] at hmi; rw [Mu.add_other _ _ ej] at hmj
        exact hr.inj i j bi bj a x y hi hj ho hmi hmj
  · intro i blk' b' base' hg hm hlt
    rw [H.get_new] at hg
    split at hg
    · rename_i ee; subst ee; rw [Mu.add_same] at hm; cases hm; omega
    · rename_i ee; rw [Mu.add_other _ _ ee] at hm; exact ⟨i, blk', base', hg, id, hm⟩
  · have slc : ∀ x, VR g μ1 (szOf w1) (.slice (some (p, 0)) c.length cap 1) x → VR g (μ.add h.next (b, base)) (szOf w1) (.slice (some (h.next, 0)) c.length none 1) x := by
      intro x v1
      generalize hL : c.length = L at v1 ⊢
      cases v1 with
      | slc _ _ _ _ _ b' base' cap' n hb' hs hn hl hc0 =>
        rw [hpb] at hb'; cases hb'
        exact .slc _ _ _ _ _ b base cap' n (Mu.add_same _ _ _) hs hn hl (fun _ h => by cases h)
      | slc0 _ _ _ _ a base' hb' hc0 =>
        rw [hpb] at hb'
        exact .slc0 _ _ _ _ a base (by rw [Mu.add_same]; simp only [Option.some.injEq, Prod.mk.injEq] at hb' ⊢; exact ⟨hb'.1, trivial⟩) (fun _ h => by cases h)
    cases e with
    | none => exact slc _ r6
    | some e =>
      simp only [sliceE] at r6 ⊢
      cases r6 with
      | tup _ cs' hv =>
        generalize hcs : cs'.toList = m at hv
        cases hv with
        | cons _ y _ m1 v1 v2 =>
          refine .tup _ _ ?_
          rw [hcs]
          exact .cons _ _ _ _ (slc _ v1) (VR.free'.2 _ _ v2 (by simp only [datas]; simpa [dataO] using d3))
end Go.Eng
namespace Go.Eng
open Go
set_option linter.unusedVariables false
set_option linter.unusedSimpArgs false
/-! numbers of 32 bits, as they are worked out -/
def xr (a b : Nat) : Nat := Nat.xor (a % 4294967296) (b % 4294967296)
def an (a b : Nat) : Nat := Nat.land (a % 4294967296) (b % 4294967296)
def orr (a b : Nat) : Nat := Nat.lor (a % 4294967296) (b % 4294967296)
def nt (a : Nat) : Nat := 4294967295 - a % 4294967296
def ad (a b : Nat) : Nat := (a + b) % 4294967296
def sl (a m : Nat) : Nat := a * 2 ^ m % 4294967296
def sr (a m : Nat) : Nat := a / 2 ^ m
theorem m32 (a : Nat) : a % 4294967296 < 2 ^ 32 := Nat.mod_lt _ (by decide)
theorem xr_lt (a b : Nat) : xr a b < 4294967296 := Nat.xor_lt_two_pow (m32 a) (m32 b)
theorem an_lt (a b : Nat) : an a b < 4294967296 := Nat.and_lt_two_pow _ (m32 b)
theorem orr_lt (a b : Nat) : orr a b < 4294967296 := Nat.or_lt_two_pow (m32 a) (m32 b)
theorem nt_lt (a : Nat) : nt a < 4294967296 := by unfold nt; omega
theorem ad_lt (a b : Nat) : ad a b < 4294967296 := Nat.mod_lt _ (by decide)
theorem sl_lt (a b : Nat) : sl a b < 4294967296 := Nat.mod_lt _ (by decide)
theorem asK32 (r : Nat) (h : r < 4294967296) : asK .u32 r = (r : Int) := by
  unfold asK
  rw [cond_blt, if_pos (by simpa [half] using h)]
  rfl
theorem b_xor32 (e : EqK) (h : H) (a b : Nat) : binV .xor e h (.int .u32 (a : Int)) (.int .u32 (b : Int)) = some (.int .u32 (xr a b : Nat)) := by
  have : binV .xor e h (.int .u32 (a : Int)) (.int .u32 (b : Int)) = some (.int .u32 (asK .u32 (xr a b))) := rfl
  rw [this, asK32 _ (xr_lt a b)]
theorem b_and32 (e : EqK) (h : H) (a b : Nat) : binV .and e h (.int .u32 (a : Int)) (.int .u32 (b : Int)) = some (.int .u32 (an a b : Nat)) := by
  have : binV .and e h (.int .u32 (a : Int)) (.int .u32 (b : Int)) = some (.int .u32 (asK .u32 (an a b))) := rfl
  rw [this, asK32 _ (an_lt a b)]
theorem b_or32 (e : EqK) (h : H) (a b : Nat) : binV .or e h (.int .u32 (a : Int)) (.int .u32 (b : Int)) = some (.int .u32 (orr a b : Nat)) := by
  have : binV .or e h (.int .u32 (a : Int)) (.int .u32 (b : Int)) = some (.int .u32 (asK .u32 (orr a b))) := rfl
  rw [this, asK32 _ (orr_lt a b)]
theorem u_not32 (a : Nat) : unV .xor (.int .u32 (a : Int)) = some (.int .u32 (nt a : Nat)) := by
  have : unV .xor (.int .u32 (a : Int)) = some (.int .u32 (asK .u32 (nt a))) := rfl
  rw [this, asK32 _ (nt_lt a)]
theorem w32 (n : Nat) : wr .u32 (n : Int) = ((n % 4294967296 : Nat) : Int) := by
  have : wr .u32 (n : Int) = asK .u32 (n % 4294967296) := rfl
  rw [this, asK32 _ (Nat.mod_lt _ (by decide))]
theorem w32ad (a b : Nat) : wr .u32 ((a : Int) + (b : Int)) = (ad a b : Nat) := by
  rw [← Int.natCast_add, w32]; rfl
theorem b_add32 (e : EqK) (h : H) (a b : Nat) : binV .add e h (.int .u32 (a : Int)) (.int .u32 (b : Int)) = some (.int .u32 (ad a b : Nat)) := by
  rw [b_add, w32ad]
theorem b_shl32 (e : EqK) (h : H) (a m : Nat) (hm : m ≤ 32) : binV .shl e h (.int .u32 (a : Int)) (.int .u64 (m : Int)) = some (.int .u32 (sl a m : Nat)) := by
  have e1 : binV .shl e h (.int .u32 (a : Int)) (.int .u64 (m : Int)) = some (.int .u32 (wr .u32 (((a * 2 ^ (bif Nat.ble m 32 then m else 32) : Nat)) : Int))) := rfl
  rw [e1, w32, cond_ble, if_pos hm]; rfl
theorem b_shr32 (e : EqK) (h : H) (a m : Nat) (hm : m ≤ 32) : binV .shr e h (.int .u32 (a : Int)) (.int .u64 (m : Int)) = some (.int .u32 (sr a m : Nat)) := by
  have e1 : binV .shr e h (.int .u32 (a : Int)) (.int .u64 (m : Int)) = some (.int .u32 ((a / 2 ^ (bif Nat.ble m 32 then m else 32) : Nat) : Int)) := rfl
  rw [e1, cond_ble, if_pos hm]; rfl
def ofI (k : IntKind) : List Nat → List V
  | [] => []
  | n :: r => .int k (n : Int) :: ofI k r
theorem ofI_u8 : ∀ l, ofI .u8 l = ofBytes l := by
  intro l; induction l with
  | nil => rfl
  | cons a r ih => simp only [ofI, ofBytes, ih]; rfl
theorem ofI_len (k : IntKind) (l : List Nat) : (ofI k l).length = l.length := by
  induction l with
  | nil => rfl
  | cons a r ih => simp only [ofI, List.length_cons, ih]
theorem ofI_app (k : IntKind) (a b : List Nat) : ofI k (a ++ b) = ofI k a ++ ofI k b := by
  induction a with
  | nil => rfl
  | cons x r ih => simp only [List.cons_append, ofI, ih]
theorem ofI_get (k : IntKind) (l : List Nat) (i : Nat) (h : i < l.length) : (ofI k l)[i]? = some (.int k (l.getD i 0 : Nat)) := by
  induction l generalizing i with
  | nil => cases h
  | cons a r ih =>
    cases i with
    | zero => rfl
    | succ i => simp only [ofI, List.getElem?_cons_succ, List.getD_cons_succ]; exact ih i (by simpa using h)
theorem ofI_take (k : IntKind) (l : List Nat) (n : Nat) : (ofI k l).take n = ofI k (l.take n) := by
  induction l generalizing n with
  | nil => simp [ofI]
  | cons a r ih => cases n with
    | zero => rfl
    | succ n => simp only [ofI, List.take_succ_cons, ih]
theorem ofI_drop (k : IntKind) (l : List Nat) (n : Nat) : (ofI k l).drop n = ofI k (l.drop n) := by
  induction l generalizing n with
  | nil => simp [ofI]
  | cons a r ih => cases n with
    | zero => rfl
    | succ n => simp only [ofI, List.drop_succ_cons, ih]
theorem takeN_of : ∀ (n : Nat) (vs : List V), n ≤ vs.length → takeN n vs = some (vs.take n) := by
  intro n
  induction n with
  | zero => intro vs _; rfl
  | succ n ih =>
    intro vs h
    cases vs with
    | nil => simp at h
    | cons v r => simp only [takeN, List.take_succ_cons, ih r (by simpa using h)]
theorem readN_of (vs : List V) (off n : Nat) (h : off + n ≤ vs.length) : readN vs off n = some ((vs.drop off).take n) := by
  unfold readN; exact takeN_of _ _ (by rw [List.length_drop]; omega)
theorem writeN_eq : ∀ (vs : List V) (off : Nat) (l : List V), off ≤ vs.length → writeN vs off l = vs.take off ++ l ++ vs.drop (off + l.length) := by
  intro vs off
  induction off generalizing vs with
  | zero => intro l _; rw [w_zero]; simp
  | succ o ih =>
    intro l h
    cases vs with
    | nil => simp at h
    | cons v r => rw [w_succ, ih r l (by simpa using h)]; simp [Nat.add_right_comm]
theorem writeN_len (vs : List V) (off : Nat) (l : List V) (h : off + l.length ≤ vs.length) : (writeN vs off l).length = vs.length := by
  rw [writeN_eq _ _ _ (by omega)]; simp only [List.length_append, List.length_take, List.length_drop]; omega
/-- what stands is kept -/
def Kp (h h' : H) : Prop := h.next ≤ h'.next ∧ ∀ i, i < h.next → h'.get i = h.get i
theorem Kp.refl (h : H) : Kp h h := ⟨Nat.le_refl _, fun _ _ => rfl⟩
theorem Kp.trans {a b c : H} (h : Kp a b) (h' : Kp b c) : Kp a c := ⟨Nat.le_trans h.1 h'.1, fun i hi => by rw [h'.2 i (Nat.lt_of_lt_of_le hi h.1), h.2 i hi]⟩
theorem Kp.new (h : H) (b : Blk) : Kp h (h.new b) := ⟨by rw [H.next_new]; omega, fun i hi => h_new_ne h b (by omega)⟩
theorem Kp.put {h h' : H} (k : Kp h h') {i : Nat} (b : Blk) (hi : h.next ≤ i) : Kp h (h'.put i b) := ⟨k.1, fun j hj => by rw [h_put_ne _ _ (by omega)]; exact k.2 j hj⟩
theorem Kp.del {h h' : H} (k : Kp h h') {i : Nat} (hi : h.next ≤ i) : Kp h (h'.del i) := ⟨k.1, fun j hj => by rw [h_del_ne _ (by omega)]; exact k.2 j hj⟩
/-- all but one -/
def Kq (p : Nat) (h h' : H) : Prop := h.next ≤ h'.next ∧ ∀ i, i < h.next → i ≠ p → h'.get i = h.get i
theorem Kq.refl (p : Nat) (h : H) : Kq p h h := ⟨Nat.le_refl _, fun _ _ _ => rfl⟩
theorem Kq.trans {p : Nat} {a b c : H} (h : Kq p a b) (h' : Kq p b c) : Kq p a c := ⟨Nat.le_trans h.1 h'.1, fun i hi hp => by rw [h'.2 i (Nat.lt_of_lt_of_le hi h.1) hp, h.2 i hi hp]⟩
theorem Kp.q {p : Nat} {a b : H} (h : Kp a b) : Kq p a b := ⟨h.1, fun i hi _ => h.2 i hi⟩
theorem Kq.put {p : Nat} {h h' : H} (k : Kq p h h') {i : Nat} (b : Blk) (hi : h.next ≤ i ∨ i = p) : Kq p h (h'.put i b) := ⟨k.1, fun j hj hp => by rw [h_put_ne _ _ (by omega)]; exact k.2 j hj hp⟩
theorem Kq.new {p : Nat} {h h' : H} (k : Kq p h h') (b : Blk) : Kq p h (h'.new b) := k.trans (Kp.new _ _).q
theorem Kq.del {p : Nat} {h h' : H} (k : Kq p h h') {i : Nat} (hi : h.next ≤ i) : Kq p h (h'.del i) := ⟨k.1, fun j hj hp => by rw [h_del_ne _ (by omega)]; exact k.2 j hj hp⟩
/-- rotated to the left -/
def rl (a s : Nat) : Nat := orr (sl a s) (sr a (32 - s))
/-- three times to the right -/
def trn (a i j k : Nat) : Nat := xr (xr (rl a (32 - i)) (rl a (32 - j))) (rl a (32 - k))
theorem loop_go {f : St → Option (Ex × St)} (I : Nat → Tr V → H → Prop) (L : Nat) (ex : Ex) (hex : ex ≠ .normal) (post : Tr V → H → Prop)
    (step : ∀ i T h, i < L → I i T h → ∃ T' h', f ⟨T, [], h⟩ = some (.normal, ⟨T', [], h'⟩) ∧ I (i + 1) T' h')
    (stop : ∀ T h, I L T h → ∃ T' h', f ⟨T, [], h⟩ = some (ex, ⟨T', [], h'⟩) ∧ post T' h') :
    ∀ (k i : Nat), i + k = L → ∀ (g : Nat), k < g → ∀ (T : Tr V) (h : H), I i T h → ∃ T' h', loopN f g ⟨T, [], h⟩ = some (ex, ⟨T', [], h'⟩) ∧ post T' h' := by
  intro k
  induction k with
  | zero =>
    intro i hi g hg T h hI
    obtain ⟨g, rfl⟩ : ∃ j, g = j + 1 := ⟨g - 1, by omega⟩
    obtain rfl : i = L := by omega
    obtain ⟨T', h', r1, r2⟩ := stop T h hI
    refine ⟨T', h', ?_, r2⟩
    rw [l_succ, r1]
    cases ex with
    | normal => exact absurd rfl hex
    | exit j => rfl
    | ret => rfl
  | succ k ih =>
    intro i hi g hg T h hI
    obtain ⟨g, rfl⟩ : ∃ j, g = j + 1 := ⟨g - 1, by omega⟩
    obtain ⟨T1, h1, r1, r2⟩ := step i T h (by omega) hI
    obtain ⟨T', h', r3, r4⟩ := ih (i + 1) (by omega) g (by omega) T1 h1 r2
    exact ⟨T', h', by rw [l_succ, r1, l_normal]; exact r3, r4⟩
/-- but one block, all is as it was -/
def Eqx (q : Nat) (h h' : H) : Prop := h'.next = h.next ∧ ∀ j, j ≠ q → h'.get j = h.get j
theorem Eqx.refl (q : Nat) (h : H) : Eqx q h h := ⟨rfl, fun _ _ => rfl⟩
theorem Eqx.put {q : Nat} {h h' : H} (k : Eqx q h h') (b : Blk) : Eqx q h (h'.put q b) := ⟨k.1, fun j hj => by rw [h_put_ne _ _ (Ne.symm hj)]; exact k.2 j hj⟩
theorem Eqx.trans {q : Nat} {a b c : H} (x : Eqx q a b) (y : Eqx q b c) : Eqx q a c := ⟨y.1.trans x.1, fun j hj => (y.2 j hj).trans (x.2 j hj)⟩
noncomputable def slcB (b : Option Blk) (n esz i off : Nat) (lo hi : Option V) (h : H) : Option (V × H) := match b with
  | some (.cells vs _) => bif Nat.ble (off + n * esz) vs.length then
        match bnd hi n n with
        | some b => match bnd lo 0 b with
          | some l => some (.slice (some (i, off + l * esz)) (b - l) (some (n - l)) esz, h)
          | none => none
        | none => none
      else none
  | _ => none
@[congr] theorem slcB_congr {b b' : Option Blk} {n esz i off : Nat} {lo hi : Option V} {h : H} (e : b = b') : slcB b n esz i off lo hi h = slcB b' n esz i off lo hi h := by rw [e]
noncomputable def slcAE (n esz : Nat) (x : V) (lo hi : Option V) (h : H) : Option (V × H) := match x with
  | .ptr (some (i, off)) => slcB (h.get i) n esz i off lo hi h
  | _ => none
theorem x_slcA (Q : Orc) (T : Tr V) (h : H) (n esz : Nat) (x : O) (lo hi : Option O) : Eng.step (.slcA n esz x lo hi none) Q T h = slcAE n esz (evO T x) (evM T lo) (evM T hi) h := by
  show o_slcA n esz x lo hi none Q T h = _
  unfold o_slcA slcAE slcB evM
  cases evO T x <;> try rfl
  rename_i a
  cases a with
  | none => rfl
  | some io =>
    obtain ⟨i, off⟩ := io
    simp only
    cases h.get i with
    | none => rfl
    | some b => cases b <;> rfl
theorem x_slcAE (n esz i off : Nat) (lo hi : Option V) (h : H) : slcAE n esz (.ptr (some (i, off))) lo hi h = slcB (h.get i) n esz i off lo hi h := _root_.id rfl
theorem x_slcB (vs : List V) (m : Md) (n esz i off l b : Nat) (lo hi : Option V) (h : H) (hv : off + n * esz ≤ vs.length) (h1 : bnd hi n n = some b) (h2 : bnd lo 0 b = some l) :
    slcB (some (.cells vs m)) n esz i off lo hi h = some (.slice (some (i, off + l * esz)) (b - l) (some (n - l)) esz, h) := by
  unfold slcB
  simp only [cond_ble, if_pos hv, h1, h2]
theorem x_M1 (T : Tr V) (o : O) : evM T (some o) = some (evO T o) := _root_.id rfl
theorem x_M0 (T : Tr V) : evM T none = none := _root_.id rfl
theorem x_bnd0 (d m : Nat) : bnd none d m = some d := _root_.id rfl
theorem x_bnd (k : IntKind) (n d m : Nat) (h : n ≤ m) : bnd (some (.int k (n : Int))) d m = some n := by
  show (bif Nat.ble n m then some n else none) = _
  rw [cond_ble, if_pos h]
theorem w64n {n : Nat} (h : n < 9223372036854775808) : wr .i64 (n : Int) = (n : Int) := wr_i64 (by omega)
theorem idxn {i L : Nat} (h : i < L) : idx (i : Int) L = some i := by
  show (bif Nat.blt i L then some i else none) = _
  rw [cond_blt, if_pos h]
end Go.Eng
