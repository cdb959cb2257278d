/- What functions of the program come to: own work. -/
import Derived.Test.YtglaaipaomnnmaaEngI
import Derived.Test.YtglaaipaomnnmaaSpF
import Derived.ProofKit
import Derived.OpenShut
import Derived.ChangeSame
import Derived.ChangeArms
/-
  ENGINE, part 30a: functions from data to data, as known calls. Own work.
-/
namespace Go.Eng
open Go
/-- a function from data to data -/
def pureX (f : Nat) (s : List V → Option V) : Orc := fun t args h => match t with
  | .fn f' => match Nat.beq f' f with
    | true => (match s args with | some v => some (v, h) | none => none)
    | false => none
  | .yld _ => none
theorem pureX_ok {P : Program} {g : Gn} {Q : Orc} (hQ : QOk P g Q) {f : Nat} {s : List V → Option V} (hs : ∀ args v, s args = some v → datas args = true ∧ dataV v = true ∧ ∃ h1, Q (.fn f) args H.empty = some (v, h1)) : QOk P g (pureX f s) := by
  intro t args h v h1 hc
  unfold pureX at hc
  cases t with
  | yld l => cases hc
  | fn f' =>
    simp only at hc
    cases hb : Nat.beq f' f with
    | false => rw [hb] at hc; cases hc
    | true =>
      rw [hb] at hc
      obtain rfl := Nat.eq_of_beq_eq_true hb
      cases hl : s args with
      | none => simp only [hl] at hc; cases hc
      | some v' =>
        simp only [hl] at hc
        cases hc
        obtain ⟨d1, d2, h2, hq⟩ := hs args _ hl
        exact memo_ok hQ d1 d2 hq h
theorem pureX_yes {f : Nat} {s : List V → Option V} {args : List V} {v : V} (h : H) (e : s args = some v) : pureX f s (.fn f) args h = some (v, h) := by
  show (match Nat.beq f f with | true => (match s args with | some v => some (v, h) | none => none) | false => none) = _
  rw [show Nat.beq f f = true from Nat.beq_refl f, e]
theorem pureX_no {f f' : Nat} {s : List V → Option V} {args : List V} (h : H) (e : Nat.beq f' f = false) : pureX f s (.fn f') args h = none := by
  show (match Nat.beq f' f with | true => (match s args with | some v => some (v, h) | none => none) | false => none) = _
  rw [e]
theorem pureX_yld {f l : Nat} {s : List V → Option V} {args : List V} (h : H) : pureX f s (.yld l) args h = none := rfl
theorem orX_l {X Y : Orc} {t : Tgt} {args : List V} {h : H} {r : V × H} (e : X t args h = some r) : orX X Y t args h = some r := by unfold orX; rw [e]
theorem orX_r {X Y : Orc} {t : Tgt} {args : List V} {h : H} (e : X t args h = none) : orX X Y t args h = Y t args h := by unfold orX; rw [e]

theorem blt_dec' (x y : Nat) : Nat.blt x y = decide (x < y) := by
  by_cases h : x < y
  · rw [decide_eq_true h]; simpa using h
  · rw [decide_eq_false h]
    cases hb : Nat.blt x y with
    | false => rfl
    | true => exact absurd (by simpa using hb) h
end Go.Eng
/-
  ENGINE, part 33: functions from data to a slice of new cells, as known calls. Own work.
-/
namespace Go.Eng
open Go
/-- the answer: a slice of new cells, and data beside it -/
noncomputable def newV (h : H) (cells : List V) (e : V) : V × H := match cells with
  | [] => (.tup [.slice none 0 (some 0) 0, e], h)
  | c :: r => (.tup [.slice (some (h.next, 0)) (r.length + 1) none 1, e], h.new (.cells (c :: r) .sh))
noncomputable def newX (f : Nat) (s : List V → Option (List V × V)) : Orc := fun t args h => match t with
  | .fn f' => match Nat.beq f' f with
    | true => (match s args with | some (c, e) => some (newV h c e) | none => none)
    | false => none
  | .yld _ => none
theorem empty_get (i : Nat) : H.empty.get i = none := by simp [H.empty, H.get, Tr.get]
theorem newX_ok {P : Program} {g : Gn} {Q : Orc} (hQ : QOk P g Q) {f : Nat} {s : List V → Option (List V × V)}
    (hs : ∀ args c e, s args = some (c, e) → datas args = true ∧ datas c = true ∧ dataV e = true ∧
      ((c = [] ∧ ∃ h1, Q (.fn f) args H.empty = some (.tup [.slice none 0 (some 0) 0, e], h1)) ∨
       (c ≠ [] ∧ ∃ p md h1, Q (.fn f) args H.empty = some (.tup [.slice (some (p, 0)) c.length none 1, e], h1) ∧ isRo md = false ∧ h1.get p = some (.cells c md)))) : QOk P g (newX f s) := by
  intro t args h v h1 hc
  unfold newX at hc
  cases t with
  | yld l => cases hc
  | fn f' =>
    simp only at hc
    cases hb : Nat.beq f' f with
    | false => rw [hb] at hc; cases hc
    | true =>
      rw [hb] at hc
      obtain rfl := Nat.eq_of_beq_eq_true hb
      cases hl : s args with
      | none => simp only [hl] at hc; cases hc
      | some ce =>
        obtain ⟨c, e⟩ := ce
        simp only [hl] at hc
        obtain ⟨d1, d2, d3, hq⟩ := hs args c e hl
        intro μ w hr xs hxs f'' hf'
        have hr0 : HR P g (fun _ => none) H.empty w := ⟨fun _ _ => rfl, fun i b hb => (by rw [empty_get] at hb; cases hb), fun i j bi bj a x y hb => (by rw [empty_get] at hb; cases hb)⟩
        rcases hq with ⟨rfl, h2, hq⟩ | ⟨hne, p, md, h2, hq, hmd, hp⟩
        · cases hc
          obtain ⟨c1, c2⟩ := hQ _ _ _ _ _ hq (fun _ => none) w hr0 xs (VR.free'.2 _ _ hxs d1) f'' hf'
          refine ⟨c1, fun cs => ?_⟩
          obtain ⟨fr, μ1, w1, x, r1, r2, r3, r4, r5, r6⟩ := c2 cs
          have hk : ∀ b, b < w.heap.size → w1.heap[b]? = w.heap[b]? := fun b hb => r5.keep b hb (fun i blk base hg => by rw [empty_get] at hg; cases hg)
          refine ⟨fr, μ, w1, x, r1, r2, r3, ⟨hr.fresh, fun i b hb => ?_, hr.inj⟩, ⟨Mu.le_refl _, r5.size, r5.sz, fun b hb _ => hk b hb, fun i blk b base h1 h3 _ => ⟨i, blk, base, h1, id, h3⟩, Nat.le_refl _, r5.io, fun _ _ => rfl⟩, ?_⟩
          · obtain ⟨a, base, hm, hb'⟩ := hr.blk i b hb
            exact ⟨a, base, hm, hb'.mono (Mu.le_refl _) r5.sz (hk a hb'.lt)⟩
          · cases r6 with
            | tup _ cs' hv =>
              generalize hcs : cs'.toList = m at hv
              cases hv with
              | cons _ y _ m1 v1 v2 =>
                cases v1 with
                | slcN _ _ hc0 =>
                  refine .tup _ _ ?_
                  rw [hcs]
                  exact .cons _ _ _ _ (.slcN _ _ hc0) (VR.free'.2 _ _ v2 (by simp only [datas, d3, Bool.and_self]))
        · obtain ⟨c1, c2⟩ := hQ _ _ _ _ _ hq (fun _ => none) w hr0 xs (VR.free'.2 _ _ hxs d1) f'' hf'
          refine ⟨c1, fun cs => ?_⟩
          obtain ⟨fr, μ1, w1, x, r1, r2, r3, r4, r5, r6⟩ := c2 cs
          have hk : ∀ b, b < w.heap.size → w1.heap[b]? = w.heap[b]? := fun b hb => r5.keep b hb (fun i blk base hg => by rw [empty_get] at hg; cases hg)
          obtain ⟨b, base, hpb, hbr⟩ := r4.blk p _ hp
          have hnew : w.heap.size ≤ b := by
            rcases Nat.lt_or_ge b w.heap.size with hlt | hge
            · obtain ⟨i', blk', base', hi', _⟩ := r5.img p _ b base hp hpb hlt
              rw [empty_get] at hi'; cases hi'
            · exact hge
          have hfr : μ h.next = none := hr.fresh _ (Nat.le_refl _)
          have hle := Mu.le_add (x := (b, base)) hfr
          have hvh : (v, h1) = (.tup [.slice (some (h.next, 0)) c.length none 1, e], h.new (.cells c .sh)) := by
            cases c with
            | nil => exact absurd rfl hne
            | cons c0 cr => cases hc; rfl
          cases hvh
          have hbr2 : BR P g (μ.add h.next (b, base)) w1 (.cells c .sh) b base := by
            obtain ⟨cc, e0, fz, k1, k2, k3, k4, k5⟩ := hbr
            refine ⟨cc, e0, fz, k1, k2, fun j v hj => ?_, fun _ => k4 hmd, fun hx => by cases hx⟩
            obtain ⟨x, x1, x2⟩ := k3 j v hj
            refine ⟨x, x1, VR.free'.1 _ _ x2 ?_⟩
            have : ∀ (l : List V), datas l = true → ∀ (j : Nat) (v : V), l[j]? = some v → dataV v = true := by
              intro l
              induction l with
              | nil => intro _ j v hj; simp at hj
              | cons a r ih =>
                intro hd j v hj
                simp only [datas, Bool.and_eq_true] at hd
                cases j with
                | zero => simp at hj; subst hj; exact hd.1
                | succ j => simp at hj; exact ih hd.2 j v hj
            exact this c d2 j v hj
          refine ⟨fr, μ.add h.next (b, base), w1, x, r1, r2, r3, ⟨?_, ?_, ?_⟩, ⟨hle, r5.size, r5.sz, fun b hb _ => hk b hb, ?_, Nat.le_succ _, r5.io, fun i hi => Mu.add_other _ _ (by omega)⟩, ?_⟩
          · intro i hi
            have hi' : h.next + 1 ≤ i := hi
            rw [Mu.add_other _ _ (by omega)]
            exact hr.fresh i (by omega)
          · intro i bi hg
            rw [H.get_new] at hg
            split at hg
            · rename_i ee; cases hg; subst ee; exact ⟨_, _, Mu.add_same _ _ _, hbr2⟩
            · rename_i ee
              obtain ⟨a, base', hm, hbr'⟩ := hr.blk i bi hg
              exact ⟨a, base', by rw [Mu.add_other _ _ ee]; exact hm, hbr'.mono hle r5.sz (hk a hbr'.lt)⟩
          · intro i j bi bj a x y hi hj ho hmi hmj
            rw [H.get_new] at hi hj
            split at hi
            · rename_i ei; subst ei
              split at hj
              · rename_i ej; exact ej
              · rename_i ej
                rw [Mu.add_same] at hmi; rw [Mu.add_other _ _ ej] at hmj
                obtain ⟨a', base', hm, hbr'⟩ := hr.blk j bj hj
                have := hbr'.lt
                rw [hmj] at hm; cases hm; cases hmi; omega
            · rename_i ei
              split at hj
              · rename_i ej; subst ej
                rw [Mu.add_same] at hmj; rw [Mu.add_other _ _ ei] at hmi
                obtain ⟨a', base', hm, hbr'⟩ := hr.blk i bi hi
                have := hbr'.lt
                rw [hmi] at hm; cases hm; cases hmj; omega
              · rename_i ej
                rw [Mu.add_other _ _ ei] at hmi; rw [Mu.add_other _ _ ej] at hmj
                exact hr.inj i j bi bj a x y hi hj ho hmi hmj
          · intro i blk' b' base' hg hm hlt
            rw [H.get_new] at hg
            split at hg
            · rename_i ee; subst ee; rw [Mu.add_same] at hm; cases hm; omega
            · rename_i ee; rw [Mu.add_other _ _ ee] at hm; exact ⟨i, blk', base', hg, id, hm⟩
          · cases r6 with
            | tup _ cs' hv =>
              generalize hcs : cs'.toList = m at hv
              cases hv with
              | cons _ y _ m1 v1 v2 =>
                refine .tup _ _ ?_
                rw [hcs]
                refine .cons _ _ _ _ ?_ (VR.free'.2 _ _ v2 (by simp only [datas, d3, Bool.and_self]))
                generalize hL : c.length = L at v1 ⊢
                cases v1 with
                | slc _ _ _ _ _ b' base' cap' n hb' hs hn hl hc0 =>
                  rw [hpb] at hb'; cases hb'
                  exact .slc _ _ _ _ _ b base cap' n (Mu.add_same _ _ _) hs hn hl hc0
                | slc0 _ _ _ _ a base' hb' hc0 =>
                  rw [hpb] at hb'
                  exact .slc0 _ _ _ _ a base (by rw [Mu.add_same]; simp only [Option.some.injEq, Prod.mk.injEq] at hb' ⊢; exact ⟨hb'.1, trivial⟩) hc0
theorem newX_yes {f : Nat} {s : List V → Option (List V × V)} {args : List V} {c : List V} {e : V} (h : H) (q : s args = some (c, e)) : newX f s (.fn f) args h = some (newV h c e) := by
  show (match Nat.beq f f with | true => (match s args with | some (c, e) => some (newV h c e) | none => none) | false => none) = _
  rw [show Nat.beq f f = true from Nat.beq_refl f, q]
theorem newX_no {f f' : Nat} {s : List V → Option (List V × V)} {args : List V} (h : H) (e : Nat.beq f' f = false) : newX f s (.fn f') args h = none := by
  show (match Nat.beq f' f with | true => (match s args with | some (c, e) => some (newV h c e) | none => none) | false => none) = _
  rw [e]
end Go.Eng
/-
  ENGINE, part 34: functions of a slice's bytes, as known calls. Own work.
-/
namespace Go.Eng
open Go
def unB : List V → Option (List Nat)
  | [] => some []
  | .int .u8 (.ofNat a) :: r => match unB r with
    | some l => some (a :: l)
    | none => none
  | _ => none
theorem unB_some : ∀ {cs : List V} {l : List Nat}, unB cs = some l → cs = ofBytes l := by
  intro cs
  induction cs with
  | nil => intro l h; cases h; rfl
  | cons c r ih =>
    intro l h
    unfold unB at h
    split at h
    · rename_i he; cases he
    · rename_i a r' he
      cases he
      split at h
      · rename_i l' hl
        cases h
        rw [ih hl]; rfl
      · cases h
    · cases h
theorem unB_of : ∀ (l : List Nat), unB (ofBytes l) = some l := by
  intro l
  induction l with
  | nil => rfl
  | cons a r ih =>
    show (match unB (ofBytes r) with | some l => some (a :: l) | none => none) = _
    rw [ih]
/-- the bytes of a slice -/
noncomputable def rdC (n off : Nat) (b : Option Blk) : Option (List Nat) := match b with
  | some (.cells vs _) => match readN vs off n with
    | some l => unB l
    | none => none
  | _ => none
@[congr] theorem rdC_congr {n off : Nat} {b b' : Option Blk} (e : b = b') : rdC n off b = rdC n off b' := by rw [e]
noncomputable def rdB (h : H) (v : V) : Option (List Nat) := match v with
  | .slice a n _ e => match n with
    | 0 => some []
    | n + 1 => match a with
      | some (i, off) => match e with
        | 1 => rdC (n + 1) off (h.get i)
        | _ => none
      | none => none
  | _ => none
theorem rdC_of (l : List Nat) (m : Md) (n : Nat) (hn : l.length = n) : rdC n 0 (some (.cells (ofBytes l) m)) = some l := by
  have hl : (ofBytes l).length = n := by
    rw [← hn]
    clear hn
    induction l with
    | nil => rfl
    | cons a r ih => simp only [ofBytes, List.length_cons, ih]
  have : readN (ofBytes l) 0 n = some (ofBytes l) := by
    unfold readN
    rw [List.drop_zero, ← hl]
    have : ∀ vs : List V, takeN vs.length vs = some vs := by
      intro vs
      induction vs with
      | nil => rfl
      | cons v r ih => simp only [List.length_cons, takeN, ih]
    exact this _
  unfold rdC
  simp only [this, unB_of]
noncomputable def bytesX (f : Nat) (s : List Nat → Option V) : Orc := fun t args h => match t with
  | .fn f' => match Nat.beq f' f with
    | true => (match args with
      | [x] => (match rdB h x with | some l => (match s l with | some v => some (v, h) | none => none) | none => none)
      | _ => none)
    | false => none
  | .yld _ => none
theorem beqs_ofBytes (s : List Nat) : V.beqs (ofBytes s) (ofBytes s) = true := by
  induction s with
  | nil => rfl
  | cons a r ih =>
    simp only [ofBytes, V.beqs, V.beq, kindEq_self, ih, ieq_dec, decide_true, Bool.and_self]
theorem datas_ofB (l : List Nat) : datas (ofBytes l) = true := by
  induction l with
  | nil => rfl
  | cons a r ih => simp only [ofBytes, datas, dataV, ih, Bool.and_self]
theorem ofB_len (s : List Nat) : (ofBytes s).length = s.length := by
  induction s with
  | nil => rfl
  | cons a r ih => simp only [ofBytes, List.length_cons, ih]
theorem bytesX_ok {P : Program} {g : Gn} {Q : Orc} (hQ : QOk P g Q) {f : Nat} {s : List Nat → Option V}
    (hs : ∀ l v, s l = some v → dataV v = true ∧ (l = [] → ∀ a c e, ∃ h1, Q (.fn f) [.slice a 0 c e] (mkH [] 1) = some (v, h1)) ∧
      (l ≠ [] → ∀ c, ∃ h1, Q (.fn f) [.slice (some (0, 0)) l.length c 1] (mkH [(0, ofBytes l)] 1) = some (v, h1))) : QOk P g (bytesX f s) := by
  intro t args h v h1 hc
  unfold bytesX at hc
  cases t with
  | yld l => cases hc
  | fn f' =>
    simp only at hc
    cases hb : Nat.beq f' f with
    | false => rw [hb] at hc; cases hc
    | true =>
      rw [hb] at hc
      obtain rfl := Nat.eq_of_beq_eq_true hb
      cases args with
      | nil => cases hc
      | cons x r =>
        cases r with
        | cons => cases hc
        | nil =>
          simp only at hc
          cases hl : rdB h x with
          | none => rw [hl] at hc; cases hc
          | some l =>
            simp only [hl] at hc
            cases hv : s l with
            | none => simp only [hv] at hc; cases hc
            | some v' =>
              simp only [hv] at hc
              cases hc
              obtain ⟨d1, d2, d3⟩ := hs l _ hv
              unfold rdB at hl
              cases x <;> (try (cases hl; done))
              rename_i a n c e
              cases n with
              | zero =>
                cases hl
                intro μ w hr xs hxs f'' hf'
                have key : ∃ (μ0 : Mu) (a' : Option (Nat × Nat)), (∀ i, 1 ≤ i → μ0 i = none) ∧ VRs g μ0 (szOf w) [.slice a' 0 c e] xs.toList := by
                  generalize xs.toList = m at hxs
                  cases hxs with
                  | cons _ y _ m1 v1 v2 =>
                    cases v2
                    cases v1 with
                    | slcN _ _ hc0 => exact ⟨fun _ => none, none, fun _ _ => rfl, .cons _ _ _ _ (.slcN _ _ hc0) .nil⟩
                    | slc i o _ _ _ b base cap' n hb' hs' hn hl' hc0 =>
                      refine ⟨Mu.add (fun _ => none) 0 (b, base + o), some (0, 0), fun i hi => by rw [Mu.add_other _ _ (by omega)], .cons _ _ _ _ ?_ .nil⟩
                      have := VR.slc (g := g) (μ := Mu.add (fun _ => none) 0 (b, base + o)) (sz := szOf w) 0 0 0 c e b (base + o) cap' n (Mu.add_same _ _ _) hs' (by simpa using hn) hl' hc0
                      simpa using this
                    | slc0 i o _ _ a base hb' hc0 =>
                      exact ⟨Mu.add (fun _ => none) 0 (a.block, base), some (0, 0), fun i hi => by rw [Mu.add_other _ _ (by omega)], .cons _ _ _ _ (.slc0 0 0 c e a base (Mu.add_same _ _ _) hc0) .nil⟩
                obtain ⟨μ0, a', f0, v0⟩ := key
                have hempty : ∀ i, (mkH [] 1).get i = none := by intro i; simp [mkH, mkB, H.get, Tr.get]
                have hr0 : HR P g μ0 (mkH [] 1) w := ⟨fun i hi => f0 i hi, fun i b hb => (by rw [hempty] at hb; cases hb), fun i j bi bj a x y hb => (by rw [hempty] at hb; cases hb)⟩
                obtain ⟨h2, hq⟩ := d2 rfl a' c e
                obtain ⟨c1, c2⟩ := hQ _ _ _ _ _ hq μ0 w hr0 xs v0 f'' hf'
                refine ⟨c1, fun cs => ?_⟩
                obtain ⟨fr, μ1, w1, x, r1, r2, r3, r4, r5, r6⟩ := c2 cs
                have hk : ∀ b, b < w.heap.size → w1.heap[b]? = w.heap[b]? := fun b hb => r5.keep b hb (fun i blk base hg => by rw [hempty] at hg; cases hg)
                refine ⟨fr, μ, w1, x, r1, r2, r3, ⟨hr.fresh, fun i b hb => ?_, hr.inj⟩, ⟨Mu.le_refl _, r5.size, r5.sz, fun b hb _ => hk b hb, fun i blk b base h1 h3 _ => ⟨i, blk, base, h1, id, h3⟩, Nat.le_refl _, r5.io, fun _ _ => rfl⟩, VR.free'.1 _ _ r6 d1⟩
                obtain ⟨a, base, hm, hb'⟩ := hr.blk i b hb
                exact ⟨a, base, hm, hb'.mono (Mu.le_refl _) r5.sz (hk a hb'.lt)⟩
              | succ n =>
                simp only at hl
                cases a with
                | none => cases hl
                | some io =>
                  obtain ⟨i, off⟩ := io
                  simp only at hl
                  split at hl
                  · unfold rdC at hl
                    split at hl
                    · rename_i vs m hg
                      split at hl
                      · rename_i cs hrd
                        have hcs := unB_some hl
                        subst hcs
                        have hlen : l.length = n + 1 := by
                          have := (takeN_some hrd)
                          have h5 := congrArg List.length this.1
                          rw [ofB_len, List.length_take] at h5
                          have := this.2
                          omega
                        have hne : l ≠ [] := by intro h0; rw [h0] at hlen; cases hlen
                        obtain ⟨h2, hq⟩ := d3 hne c
                        have hk := kn_ok (P := P) (g := g) hQ (f := f') (ps := [.s (ofBytes l) l.length 1 c]) (v := v) (h1 := h2) (by
                          simp only [okPs, okP, datas_ofB, ofB_len, Nat.mul_one, Bool.and_true, Bool.true_and, Bool.and_eq_true]
                          exact ⟨Nat.beq_refl _, by simp [hlen]⟩) d1 (by simpa [argsP, argP, blsP, blP] using hq)
                        refine hk [.slice (some (i, off)) (n + 1) c 1] h ?_
                        simp only [hitPs, hitP, Bool.and_true, hlen, Nat.mul_one, cellsEq, hg, hrd, beqs_ofBytes]
                        have : beqC c c = true := by cases c <;> simp [beqC]
                        simp [this]
                      · cases hl
                    · cases hl
                  · cases hl
theorem bytesX_yes {f : Nat} {s : List Nat → Option V} {x v : V} {l : List Nat} (h : H) (e : rdB h x = some l) (q : s l = some v) : bytesX f s (.fn f) [x] h = some (v, h) := by
  show (match Nat.beq f f with | true => (match rdB h x with | some l => (match s l with | some v => some (v, h) | none => none) | none => none) | false => none) = _
  rw [show Nat.beq f f = true from Nat.beq_refl f, e]
  simp only [q]
theorem bytesX_no {f f' : Nat} {s : List Nat → Option V} {args : List V} (h : H) (e : Nat.beq f' f = false) : bytesX f s (.fn f') args h = none := by
  show (match Nat.beq f' f with | true => _ | false => none) = _
  rw [e]
end Go.Eng
/-
  ENGINE, part 35: calls whose arguments are known by content, and whose answer is a slice of new cells (and data beside it). Own work.
-/
namespace Go.Eng
open Go
def sliceE (s : V) (e : Option V) : V := match e with
  | none => s
  | some e => .tup [s, e]
def dataO : Option V → Bool
  | none => true
  | some e => dataV e
theorem knew_ok {P : Program} {g : Gn} {Q : Orc} (hQ : QOk P g Q) {f : Nat} {ps : List Pa} {c : List V} {e : Option V} {p : Nat} {md : Md} {cap : Option Nat} {h2 : H} (ha : okPs ps = true) (d2 : datas c = true) (d3 : dataO e = true) (_hne : c ≠ [])
    (hq : Q (.fn f) (argsP 0 ps) (mkH (blsP 0 ps) ps.length) = some (sliceE (.slice (some (p, 0)) c.length cap 1) e, h2)) (hmd : isRo md = false) (hp : h2.get p = some (.cells c md)) :
    ∀ args h, hitPs h ps args = true → CallOk P g (.fn f) args h (sliceE (.slice (some (h.next, 0)) c.length none 1) e) (h.new (.cells c .sh)) := by
  intro args h hh μ w hr xs hxs f' hf'
  obtain ⟨μ0, _, f0, v0, b0⟩ := hitPs_ok hr ps args xs.toList 0 (fun _ => none) ha hh hxs (fun _ _ => rfl)
  have hr0 : HR P g μ0 (mkH (blsP 0 ps) ps.length) w := by
    refine ⟨fun i hi => f0 i (by simpa [mkH] using hi), fun i b hb => ?_, fun i j bi bj a x y hb _ ho => ?_⟩
    · obtain ⟨x, h2, rfl, rfl⟩ := mkB_get _ i b hb
      obtain ⟨c, base, h3, h4⟩ := b0 x h2
      exact ⟨c, base, h3, h4⟩
    · obtain ⟨x, h2, rfl, rfl⟩ := mkB_get _ i bi hb
      cases ho
  obtain ⟨c1, c2⟩ := hQ _ _ _ _ _ hq μ0 w hr0 xs v0 f' hf'
  refine ⟨c1, fun cs => ?_⟩
  obtain ⟨fr, μ1, w1, x, r1, r2, r3, r4, r5, r6⟩ := c2 cs
  have hk : ∀ b, b < w.heap.size → w1.heap[b]? = w.heap[b]? := fun b hb => r5.keep b hb (fun i blk base hg ho => by
    obtain ⟨x, h2, rfl, rfl⟩ := mkB_get _ i blk hg
    cases ho)
  obtain ⟨b, base, hpb, hbr⟩ := r4.blk p _ hp
  have hnew : w.heap.size ≤ b := by
    rcases Nat.lt_or_ge b w.heap.size with hlt | hge
    · obtain ⟨i', blk', base', hi', hown, _⟩ := r5.img p _ b base hp hpb hlt
      obtain ⟨x0, _, _, rfl⟩ := mkB_get _ i' blk' hi'; have := hown (by cases md <;> first | (cases hmd; done) | rfl); cases this
    · exact hge
  have hfr : μ h.next = none := hr.fresh _ (Nat.le_refl _)
  have hle := Mu.le_add (x := (b, base)) hfr
  have hbr2 : BR P g (μ.add h.next (b, base)) w1 (.cells c .sh) b base := by
    obtain ⟨cc, e0, fz, k1, k2, k3, k4, k5⟩ := hbr
    refine ⟨cc, e0, fz, k1, k2, fun j v hj => ?_, fun _ => k4 hmd, fun hx => by cases hx⟩
    obtain ⟨x, x1, x2⟩ := k3 j v hj
    refine ⟨x, x1, VR.free'.1 _ _ x2 ?_⟩
    have : ∀ (l : List V), datas l = true → ∀ (j : Nat) (v : V), l[j]? = some v → dataV v = true := by
      intro l
      induction l with
      | nil => intro _ j v hj; simp at hj
      | cons a r ih =>
        intro hd j v hj
        simp only [datas, Bool.and_eq_true] at hd
        cases j with
        | zero => simp at hj; subst hj; exact hd.1
        | succ j => simp at hj; exact ih hd.2 j v hj
    exact this c d2 j v hj
  refine ⟨fr, μ.add h.next (b, base), w1, x, r1, r2, r3, ⟨?_, ?_, ?_⟩, ⟨hle, r5.size, r5.sz, fun b hb _ => hk b hb, ?_, Nat.le_succ _, r5.io, fun i hi => Mu.add_other _ _ (by omega)⟩, ?_⟩
  · intro i hi
    have hi' : h.next + 1 ≤ i := hi
    rw [Mu.add_other _ _ (by omega)]
    exact hr.fresh i (by omega)
  · intro i bi hg
    rw [H.get_new] at hg
    split at hg
    · rename_i ee; cases hg; subst ee; exact ⟨_, _, Mu.add_same _ _ _, hbr2⟩
    · rename_i ee
      obtain ⟨a, base', hm, hbr'⟩ := hr.blk i bi hg
      exact ⟨a, base', by rw [Mu.add_other _ _ ee]; exact hm, hbr'.mono hle r5.sz (hk a hbr'.lt)⟩
  · intro i j bi bj a x y hi hj ho hmi hmj
    rw [H.get_new] at hi hj
    split at hi
    · rename_i ei; subst ei
      split at hj
      · rename_i ej; exact ej
      · rename_i ej
        rw [Mu.add_same] at hmi; rw [Mu.add_other _ _ ej] at hmj
        obtain ⟨a', base', hm, hbr'⟩ := hr.blk j bj hj
        have := hbr'.lt
        rw [hmj] at hm; cases hm; cases hmi; omega
    · rename_i ei
      split at hj
      · rename_i ej; subst ej
        rw [Mu.add_same] at hmj; rw [Mu.add_other _ _ ei] at hmi
        obtain ⟨a', base', hm, hbr'⟩ := hr.blk i bi hi
        have := hbr'.lt
        rw [hmi] at hm; cases hm; cases hmj; omega
      · rename_i ej
        rw [Mu.add_other _ _ ei] at hmi; rw [Mu.add_other _ _ ej] at hmj
        exact hr.inj i j bi bj a x y hi hj ho hmi hmj
  · intro i blk' b' base' hg hm hlt
    rw [H.get_new] at hg
    split at hg
    · rename_i ee; subst ee; rw [Mu.add_same] at hm; cases hm; omega
    · rename_i ee; rw [Mu.add_other _ _ ee] at hm; exact ⟨i, blk', base', hg, id, hm⟩
  · have slc : ∀ x, VR g μ1 (szOf w1) (.slice (some (p, 0)) c.length cap 1) x → VR g (μ.add h.next (b, base)) (szOf w1) (.slice (some (h.next, 0)) c.length none 1) x := by
      intro x v1
      generalize hL : c.length = L at v1 ⊢
      cases v1 with
      | slc _ _ _ _ _ b' base' cap' n hb' hs hn hl hc0 =>
        rw [hpb] at hb'; cases hb'
        exact .slc _ _ _ _ _ b base cap' n (Mu.add_same _ _ _) hs hn hl (fun _ h => by cases h)
      | slc0 _ _ _ _ a base' hb' hc0 =>
        rw [hpb] at hb'
        exact .slc0 _ _ _ _ a base (by rw [Mu.add_same]; simp only [Option.some.injEq, Prod.mk.injEq] at hb' ⊢; exact ⟨hb'.1, trivial⟩) (fun _ h => by cases h)
    cases e with
    | none => exact slc _ r6
    | some e =>
      simp only [sliceE] at r6 ⊢
      cases r6 with
      | tup _ cs' hv =>
        generalize hcs : cs'.toList = m at hv
        cases hv with
        | cons _ y _ m1 v1 v2 =>
          refine .tup _ _ ?_
          rw [hcs]
          exact .cons _ _ _ _ (slc _ v1) (VR.free'.2 _ _ v2 (by simp only [datas]; simpa [dataO] using d3))
end Go.Eng
namespace Go.Eng
open Go
set_option linter.unusedVariables false
set_option linter.unusedSimpArgs false
/-! numbers of 32 bits, as they are worked out -/
def xr (a b : Nat) : Nat := Nat.xor (a % 4294967296) (b % 4294967296)
def an (a b : Nat) : Nat := Nat.land (a % 4294967296) (b % 4294967296)
def orr (a b : Nat) : Nat := Nat.lor (a % 4294967296) (b % 4294967296)
def nt (a : Nat) : Nat := 4294967295 - a % 4294967296
def ad (a b : Nat) : Nat := (a + b) % 4294967296
def sl (a m : Nat) : Nat := a * 2 ^ m % 4294967296
def sr (a m : Nat) : Nat := a / 2 ^ m
theorem m32 (a : Nat) : a % 4294967296 < 2 ^ 32 := Nat.mod_lt _ (by decide)
theorem xr_lt (a b : Nat) : xr a b < 4294967296 := Nat.xor_lt_two_pow (m32 a) (m32 b)
theorem an_lt (a b : Nat) : an a b < 4294967296 := Nat.and_lt_two_pow _ (m32 b)
theorem orr_lt (a b : Nat) : orr a b < 4294967296 := Nat.or_lt_two_pow (m32 a) (m32 b)
theorem nt_lt (a : Nat) : nt a < 4294967296 := by unfold nt; omega
theorem ad_lt (a b : Nat) : ad a b < 4294967296 := Nat.mod_lt _ (by decide)
theorem sl_lt (a b : Nat) : sl a b < 4294967296 := Nat.mod_lt _ (by decide)
theorem asK32 (r : Nat) (h : r < 4294967296) : asK .u32 r = (r : Int) := by
  unfold asK
  rw [cond_blt, if_pos (by simpa [half] using h)]
  rfl
theorem b_xor32 (e : EqK) (h : H) (a b : Nat) : binV .xor e h (.int .u32 (a : Int)) (.int .u32 (b : Int)) = some (.int .u32 (xr a b : Nat)) := by
  have : binV .xor e h (.int .u32 (a : Int)) (.int .u32 (b : Int)) = some (.int .u32 (asK .u32 (xr a b))) := rfl
  rw [this, asK32 _ (xr_lt a b)]
theorem b_and32 (e : EqK) (h : H) (a b : Nat) : binV .and e h (.int .u32 (a : Int)) (.int .u32 (b : Int)) = some (.int .u32 (an a b : Nat)) := by
  have : binV .and e h (.int .u32 (a : Int)) (.int .u32 (b : Int)) = some (.int .u32 (asK .u32 (an a b))) := rfl
  rw [this, asK32 _ (an_lt a b)]
theorem b_or32 (e : EqK) (h : H) (a b : Nat) : binV .or e h (.int .u32 (a : Int)) (.int .u32 (b : Int)) = some (.int .u32 (orr a b : Nat)) := by
  have : binV .or e h (.int .u32 (a : Int)) (.int .u32 (b : Int)) = some (.int .u32 (asK .u32 (orr a b))) := rfl
  rw [this, asK32 _ (orr_lt a b)]
theorem u_not32 (a : Nat) : unV .xor (.int .u32 (a : Int)) = some (.int .u32 (nt a : Nat)) := by
  have : unV .xor (.int .u32 (a : Int)) = some (.int .u32 (asK .u32 (nt a))) := rfl
  rw [this, asK32 _ (nt_lt a)]
theorem w32 (n : Nat) : wr .u32 (n : Int) = ((n % 4294967296 : Nat) : Int) := by
  have : wr .u32 (n : Int) = asK .u32 (n % 4294967296) := rfl
  rw [this, asK32 _ (Nat.mod_lt _ (by decide))]
theorem w32ad (a b : Nat) : wr .u32 ((a : Int) + (b : Int)) = (ad a b : Nat) := by
  rw [← Int.natCast_add, w32]; rfl
theorem b_add32 (e : EqK) (h : H) (a b : Nat) : binV .add e h (.int .u32 (a : Int)) (.int .u32 (b : Int)) = some (.int .u32 (ad a b : Nat)) := by
  rw [b_add, w32ad]
theorem b_shl32 (e : EqK) (h : H) (a m : Nat) (hm : m ≤ 32) : binV .shl e h (.int .u32 (a : Int)) (.int .u64 (m : Int)) = some (.int .u32 (sl a m : Nat)) := by
  have e1 : binV .shl e h (.int .u32 (a : Int)) (.int .u64 (m : Int)) = some (.int .u32 (wr .u32 (((a * 2 ^ (bif Nat.ble m 32 then m else 32) : Nat)) : Int))) := rfl
  rw [e1, w32, cond_ble, if_pos hm]; rfl
theorem b_shr32 (e : EqK) (h : H) (a m : Nat) (hm : m ≤ 32) : binV .shr e h (.int .u32 (a : Int)) (.int .u64 (m : Int)) = some (.int .u32 (sr a m : Nat)) := by
  have e1 : binV .shr e h (.int .u32 (a : Int)) (.int .u64 (m : Int)) = some (.int .u32 ((a / 2 ^ (bif Nat.ble m 32 then m else 32) : Nat) : Int)) := rfl
  rw [e1, cond_ble, if_pos hm]; rfl
def ofI (k : IntKind) : List Nat → List V
  | [] => []
  | n :: r => .int k (n : Int) :: ofI k r
theorem ofI_u8 : ∀ l, ofI .u8 l = ofBytes l := by
  intro l; induction l with
  | nil => rfl
  | cons a r ih => simp only [ofI, ofBytes, ih]; rfl
theorem ofI_len (k : IntKind) (l : List Nat) : (ofI k l).length = l.length := by
  induction l with
  | nil => rfl
  | cons a r ih => simp only [ofI, List.length_cons, ih]
theorem ofI_app (k : IntKind) (a b : List Nat) : ofI k (a ++ b) = ofI k a ++ ofI k b := by
  induction a with
  | nil => rfl
  | cons x r ih => simp only [List.cons_append, ofI, ih]
theorem ofI_get (k : IntKind) (l : List Nat) (i : Nat) (h : i < l.length) : (ofI k l)[i]? = some (.int k (l.getD i 0 : Nat)) := by
  induction l generalizing i with
  | nil => cases h
  | cons a r ih =>
    cases i with
    | zero => rfl
    | succ i => simp only [ofI, List.getElem?_cons_succ, List.getD_cons_succ]; exact ih i (by simpa using h)
theorem ofI_take (k : IntKind) (l : List Nat) (n : Nat) : (ofI k l).take n = ofI k (l.take n) := by
  induction l generalizing n with
  | nil => simp [ofI]
  | cons a r ih => cases n with
    | zero => rfl
    | succ n => simp only [ofI, List.take_succ_cons, ih]
theorem ofI_drop (k : IntKind) (l : List Nat) (n : Nat) : (ofI k l).drop n = ofI k (l.drop n) := by
  induction l generalizing n with
  | nil => simp [ofI]
  | cons a r ih => cases n with
    | zero => rfl
    | succ n => simp only [ofI, List.drop_succ_cons, ih]
theorem takeN_of : ∀ (n : Nat) (vs : List V), n ≤ vs.length → takeN n vs = some (vs.take n) := by
  intro n
  induction n with
  | zero => intro vs _; rfl
  | succ n ih =>
    intro vs h
    cases vs with
    | nil => simp at h
    | cons v r => simp only [takeN, List.take_succ_cons, ih r (by simpa using h)]
theorem readN_of (vs : List V) (off n : Nat) (h : off + n ≤ vs.length) : readN vs off n = some ((vs.drop off).take n) := by
  unfold readN; exact takeN_of _ _ (by rw [List.length_drop]; omega)
theorem writeN_eq : ∀ (vs : List V) (off : Nat) (l : List V), off ≤ vs.length → writeN vs off l = vs.take off ++ l ++ vs.drop (off + l.length) := by
  intro vs off
  induction off generalizing vs with
  | zero => intro l _; rw [w_zero]; simp
  | succ o ih =>
    intro l h
    cases vs with
    | nil => simp at h
    | cons v r => rw [w_succ, ih r l (by simpa using h)]; simp [Nat.add_right_comm]
theorem writeN_len (vs : List V) (off : Nat) (l : List V) (h : off + l.length ≤ vs.length) : (writeN vs off l).length = vs.length := by
  rw [writeN_eq _ _ _ (by omega)]; simp only [List.length_append, List.length_take, List.length_drop]; omega
/-- what stands is kept -/
def Kp (h h' : H) : Prop := h.next ≤ h'.next ∧ ∀ i, i < h.next → h'.get i = h.get i
theorem Kp.refl (h : H) : Kp h h := ⟨Nat.le_refl _, fun _ _ => rfl⟩
theorem Kp.trans {a b c : H} (h : Kp a b) (h' : Kp b c) : Kp a c := ⟨Nat.le_trans h.1 h'.1, fun i hi => by rw [h'.2 i (Nat.lt_of_lt_of_le hi h.1), h.2 i hi]⟩
theorem Kp.new (h : H) (b : Blk) : Kp h (h.new b) := ⟨by rw [H.next_new]; omega, fun i hi => h_new_ne h b (by omega)⟩
theorem Kp.put {h h' : H} (k : Kp h h') {i : Nat} (b : Blk) (hi : h.next ≤ i) : Kp h (h'.put i b) := ⟨k.1, fun j hj => by rw [h_put_ne _ _ (by omega)]; exact k.2 j hj⟩
theorem Kp.del {h h' : H} (k : Kp h h') {i : Nat} (hi : h.next ≤ i) : Kp h (h'.del i) := ⟨k.1, fun j hj => by rw [h_del_ne _ (by omega)]; exact k.2 j hj⟩
/-- all but one -/
def Kq (p : Nat) (h h' : H) : Prop := h.next ≤ h'.next ∧ ∀ i, i < h.next → i ≠ p → h'.get i = h.get i
theorem Kq.refl (p : Nat) (h : H) : Kq p h h := ⟨Nat.le_refl _, fun _ _ _ => rfl⟩
theorem Kq.trans {p : Nat} {a b c : H} (h : Kq p a b) (h' : Kq p b c) : Kq p a c := ⟨Nat.le_trans h.1 h'.1, fun i hi hp => by rw [h'.2 i (Nat.lt_of_lt_of_le hi h.1) hp, h.2 i hi hp]⟩
theorem Kp.q {p : Nat} {a b : H} (h : Kp a b) : Kq p a b := ⟨h.1, fun i hi _ => h.2 i hi⟩
theorem Kq.put {p : Nat} {h h' : H} (k : Kq p h h') {i : Nat} (b : Blk) (hi : h.next ≤ i ∨ i = p) : Kq p h (h'.put i b) := ⟨k.1, fun j hj hp => by rw [h_put_ne _ _ (by omega)]; exact k.2 j hj hp⟩
theorem Kq.new {p : Nat} {h h' : H} (k : Kq p h h') (b : Blk) : Kq p h (h'.new b) := k.trans (Kp.new _ _).q
theorem Kq.del {p : Nat} {h h' : H} (k : Kq p h h') {i : Nat} (hi : h.next ≤ i) : Kq p h (h'.del i) := ⟨k.1, fun j hj hp => by rw [h_del_ne _ (by omega)]; exact k.2 j hj hp⟩
/-- rotated to the left -/
def rl (a s : Nat) : Nat := orr (sl a s) (sr a (32 - s))
/-- three times to the right -/
def trn (a i j k : Nat) : Nat := xr (xr (rl a (32 - i)) (rl a (32 - j))) (rl a (32 - k))
theorem loop_go {f : St → Option (Ex × St)} (I : Nat → Tr V → H → Prop) (L : Nat) (ex : Ex) (hex : ex ≠ .normal) (post : Tr V → H → Prop)
    (step : ∀ i T h, i < L → I i T h → ∃ T' h', f ⟨T, [], h⟩ = some (.normal, ⟨T', [], h'⟩) ∧ I (i + 1) T' h')
    (stop : ∀ T h, I L T h → ∃ T' h', f ⟨T, [], h⟩ = some (ex, ⟨T', [], h'⟩) ∧ post T' h') :
    ∀ (k i : Nat), i + k = L → ∀ (g : Nat), k < g → ∀ (T : Tr V) (h : H), I i T h → ∃ T' h', loopN f g ⟨T, [], h⟩ = some (ex, ⟨T', [], h'⟩) ∧ post T' h' := by
  intro k
  induction k with
  | zero =>
    intro i hi g hg T h hI
    obtain ⟨g, rfl⟩ : ∃ j, g = j + 1 := ⟨g - 1, by omega⟩
    obtain rfl : i = L := by omega
    obtain ⟨T', h', r1, r2⟩ := stop T h hI
    refine ⟨T', h', ?_, r2⟩
    rw [l_succ, r1]
    cases ex with
    | normal => exact absurd rfl hex
    | exit j => rfl
    | ret => rfl
  | succ k ih =>
    intro i hi g hg T h hI
    obtain ⟨g, rfl⟩ : ∃ j, g = j + 1 := ⟨g - 1, by omega⟩
    obtain ⟨T1, h1, r1, r2⟩ := step i T h (by omega) hI
    obtain ⟨T', h', r3, r4⟩ := ih (i + 1) (by omega) g (by omega) T1 h1 r2
    exact ⟨T', h', by rw [l_succ, r1, l_normal]; exact r3, r4⟩
/-- but one block, all is as it was -/
def Eqx (q : Nat) (h h' : H) : Prop := h'.next = h.next ∧ ∀ j, j ≠ q → h'.get j = h.get j
theorem Eqx.refl (q : Nat) (h : H) : Eqx q h h := ⟨rfl, fun _ _ => rfl⟩
theorem Eqx.put {q : Nat} {h h' : H} (k : Eqx q h h') (b : Blk) : Eqx q h (h'.put q b) := ⟨k.1, fun j hj => by rw [h_put_ne _ _ (Ne.symm hj)]; exact k.2 j hj⟩
theorem Eqx.trans {q : Nat} {a b c : H} (x : Eqx q a b) (y : Eqx q b c) : Eqx q a c := ⟨y.1.trans x.1, fun j hj => (y.2 j hj).trans (x.2 j hj)⟩
noncomputable def slcB (b : Option Blk) (n esz i off : Nat) (lo hi : Option V) (h : H) : Option (V × H) := match b with
  | some (.cells vs _) => bif Nat.ble (off + n * esz) vs.length then
        match bnd hi n n with
        | some b => match bnd lo 0 b with
          | some l => some (.slice (some (i, off + l * esz)) (b - l) (some (n - l)) esz, h)
          | none => none
        | none => none
      else none
  | _ => none
@[congr] theorem slcB_congr {b b' : Option Blk} {n esz i off : Nat} {lo hi : Option V} {h : H} (e : b = b') : slcB b n esz i off lo hi h = slcB b' n esz i off lo hi h := by rw [e]
noncomputable def slcAE (n esz : Nat) (x : V) (lo hi : Option V) (h : H) : Option (V × H) := match x with
  | .ptr (some (i, off)) => slcB (h.get i) n esz i off lo hi h
  | _ => none
theorem x_slcA (Q : Orc) (T : Tr V) (h : H) (n esz : Nat) (x : O) (lo hi : Option O) : Eng.step (.slcA n esz x lo hi none) Q T h = slcAE n esz (evO T x) (evM T lo) (evM T hi) h := by
  show o_slcA n esz x lo hi none Q T h = _
  unfold o_slcA slcAE slcB evM
  cases evO T x <;> try rfl
  rename_i a
  cases a with
  | none => rfl
  | some io =>
    obtain ⟨i, off⟩ := io
    simp only
    cases h.get i with
    | none => rfl
    | some b => cases b <;> rfl
theorem x_slcAE (n esz i off : Nat) (lo hi : Option V) (h : H) : slcAE n esz (.ptr (some (i, off))) lo hi h = slcB (h.get i) n esz i off lo hi h := _root_.id rfl
theorem x_slcB (vs : List V) (m : Md) (n esz i off l b : Nat) (lo hi : Option V) (h : H) (hv : off + n * esz ≤ vs.length) (h1 : bnd hi n n = some b) (h2 : bnd lo 0 b = some l) :
    slcB (some (.cells vs m)) n esz i off lo hi h = some (.slice (some (i, off + l * esz)) (b - l) (some (n - l)) esz, h) := by
  unfold slcB
  simp only [cond_ble, if_pos hv, h1, h2]
theorem x_M1 (T : Tr V) (o : O) : evM T (some o) = some (evO T o) := _root_.id rfl
theorem x_M0 (T : Tr V) : evM T none = none := _root_.id rfl
theorem x_bnd0 (d m : Nat) : bnd none d m = some d := _root_.id rfl
theorem x_bnd (k : IntKind) (n d m : Nat) (h : n ≤ m) : bnd (some (.int k (n : Int))) d m = some n := by
  show (bif Nat.ble n m then some n else none) = _
  rw [cond_ble, if_pos h]
theorem w64n {n : Nat} (h : n < 9223372036854775808) : wr .i64 (n : Int) = (n : Int) := wr_i64 (by omega)
theorem idxn {i L : Nat} (h : i < L) : idx (i : Int) L = some i := by
  show (bif Nat.blt i L then some i else none) = _
  rw [cond_blt, if_pos h]
end Go.Eng
namespace Go.Eng
open Go
variable {E : Nat → Option Fn} {X : Orc}
set_option linter.unusedSimpArgs false
set_option linter.unusedVariables false
/-- what the known calls do not answer -/
structure NoSha (X : Orc) : Prop where
  rot : ∀ a h, X (.fn k_math_bits_RotateLeft32) a h = none
  turned : ∀ a h, X (.fn k_sha_turned) a h = none
  cube : ∀ a h, X (.fn k_sha_cubeTable) a h = none
  square : ∀ a h, X (.fn k_sha_squareTable) a h = none
  sched : ∀ a h, X (.fn k_sha_Sum_schedule) a h = none
  mix : ∀ a h, X (.fn k_sha_Sum_mix) a h = none
  sums : ∀ a h, X (.fn k_sha_Sum_sums) a h = none
  fill : ∀ a h, X (.fn k_sha_Sum_fill) a h = none
  fill1 : ∀ a h, X (.fn k_sha_Sum_fill_1) a h = none
  pad : ∀ a h, X (.fn k_sha_padding) a h = none
  write : ∀ a h, X (.fn k_sha_Sum_Write) a h = none
  fin : ∀ a h, X (.fn k_sha_Sum_End) a h = none
  new : ∀ a h, X (.fn k_sha_New) a h = none
  yld : ∀ l a h, X (.yld l) a h = none
structure EnSha (E : Nat → Option Fn) : Prop where
  rot : E k_math_bits_RotateLeft32 = some f_math_bits_RotateLeft32
  turned : E k_sha_turned = some f_sha_turned
  cube : E k_sha_cubeTable = some f_sha_cubeTable
  square : E k_sha_squareTable = some f_sha_squareTable
  sched : E k_sha_Sum_schedule = some f_sha_Sum_schedule
  mix : E k_sha_Sum_mix = some f_sha_Sum_mix
  sums : E k_sha_Sum_sums = some f_sha_Sum_sums
  fill : E k_sha_Sum_fill = some f_sha_Sum_fill
  fill1 : E k_sha_Sum_fill_1 = some f_sha_Sum_fill_1
  pad : E k_sha_padding = some f_sha_padding
  write : E k_sha_Sum_Write = some f_sha_Sum_Write
  fin : E k_sha_Sum_End = some f_sha_Sum_End
  new : E k_sha_New = some f_sha_New
theorem rot_gen (e : EnSha E) (x : NoSha X) (N : Nat) (a k : Nat) (hk : k ≤ 32) (hc : wr .u64 (-(k : Int)) = 18446744073709551616 - (k : Int)) (hm : ∀ e h, binV .and e h (.int .u64 (18446744073709551616 - (k : Int))) (.int .u64 31) = some (.int .u64 ((32 - k : Nat) : Int))) (h : H) :
    callX E X (N + 1) (.fn k_math_bits_RotateLeft32) [.int .u32 (a : Int), .int .i64 (-(k : Int))] h = some (.int .u32 (rl a (32 - k) : Nat), h) := by
  rw [x_cfn e.rot _ _ (Nat.le_of_ble_eq_true rfl) (x.rot _ _)]
  have e1 : wr .u64 ((32 : Int) - ((32 - k : Nat) : Int)) = ((32 - (32 - k) : Nat) : Int) := by rw [wr_u64 (by omega)]; omega
  simp (config := {maxSteps := 2000000}) (disch := first | omega | (simp only [List.length_cons, List.length_nil, List.length_append, List.length_drop]; omega)) only [hc, hm, e1, b_shl32, b_shr32, ↓b_xor32, ↓b_and32, ↓b_or32, ↓u_not32, b_xor32, b_and32, b_or32, u_not32, w32ad, ↓x_conv, x_convV, ↓x_fieldAddr, x_fieldV, ↓s_nilchk, x_nilchk, Nat.zero_add, Nat.add_zero, Nat.mul_one, ↓l_loop, ↓l_succ, ↓l_normal, l_normal, l_exit, l_ret, l_iteN, ↓h_put_get, ↓h_new_get, ↓h_del_get, h_next_put, h_next_new, h_next_del, Nat.add_assoc, Nat.add_eq_left, Nat.left_eq_add, Nat.add_left_cancel_iff, ↓s_load, m_load, ↓m_load1, m_load1, ↓m_st, m_stE, m_storeI, m_storeE, w_zero, w_succ, ↓s_alloc, ↓x_idxA, ↓x_idxS, x_idxAE, x_idxSE, x_addrE, x_idx, x_lenS, ↓s_len, ↓x_buildS, x_buildE, ↓x_P0, ↓x_P1, x_fill0, x_filli, x_fills, x_fillb, c_int, List.length_cons, List.length_nil, List.cons_append, List.drop_succ_cons, List.drop_zero, List.drop_nil, List.nil_append, Int.reduceAdd, Int.reduceToNat, Int.reduceLT, Int.reduceLE, Nat.reduceAdd, Nat.reduceMul, Nat.reduceLeDiff, Int.reduceEq, Int.reduceSub, Int.cast_ofNat_Int, s_resc, s_consR, m_load4, m_store4, s_res0, ↓s_skip, ↓s_ops, ↓s_dops, ↓s_seq, ↓s_cond, ↓s_block, ↓s_exit, ↓s_ret, ↓s_scope, ↓s_nil, ↓s_op, ↓s_opg, ↓s_wanted', ↓s_wantV, s_wantV, s_wantV0, beq_true, beq_false, ↓s_bindS, s_bindS, ↓s_bindE, s_bindE, s_bindE_ret, s_bindE_exit, s_bindE_iteN, s_norm, ↓s_condV, s_condV, s_block_ret, s_block_normal, s_block_exit, s_block_iteN, ↓s_getp, ↓s_getp0, ↓s_get, s_get0, ↓s_con, ↓s_fn, ↓s_os0, ↓s_os1, ↓s_list0, ↓s_list1, ↓s_mov, ↓s_pick, ↓s_pickE, s_pickE, ↓s_bin, ↓s_un, ↓s_minmax, ↓s_call, ↓s_callv, ↓s_callV, ↓s_ext, s_same, b_eql, b_neq, b_lss, b_leq, b_gtr, b_geq, b_add, b_sub, b_mul, b_eqlb, b_neqb, b_fnil, b_fnil', b_fnil2, b_fnil2', u_neg, u_not, m_two, s_end, s_end', s_end_iteN, s_res0, s_res1, s_tup1, s_tup2, ↓iteN_true, ↓iteN_false, iteN_true, iteN_false, Nat.zero_add, List.nil_append, List.append_nil, Nat.reduceEqDiff, reduceIte, decide_true, decide_false, Bool.not_true, Bool.not_false, List.getElem?_cons_zero, List.getElem?_cons_succ, Bool.false_eq_true, if_true, if_false, beq_self_eq_true]
  rfl
theorem rot_go (e : EnSha E) (x : NoSha X) (N : Nat) (a k : Nat) (h1 : 1 ≤ k) (hk : k ≤ 31) (h : H) :
    callX E X (N + 1) (.fn k_math_bits_RotateLeft32) [.int .u32 (a : Int), .int .i64 (-(k : Int))] h = some (.int .u32 (rl a (32 - k) : Nat), h) := by
  refine rot_gen e x N a k (by omega) ?_ ?_ h
  · rw [wr_eq]; simp only [IntKind.wrap, IntKind.bits, IntKind.signed]; simp; omega
  · intro e h
    have e0 : (18446744073709551616 - (k : Int)) = ((18446744073709551616 - k : Nat) : Int) := by omega
    rw [e0]
    have e1 : binV .and e h (.int .u64 ((18446744073709551616 - k : Nat) : Int)) (.int .u64 31) = some (.int .u64 (asK .u64 (Nat.land ((18446744073709551616 - k) % 18446744073709551616) 31))) := rfl
    rw [e1]
    have e2 : Nat.land ((18446744073709551616 - k) % 18446744073709551616) 31 = 32 - k := by
      show ((18446744073709551616 - k) % 18446744073709551616) &&& 31 = 32 - k
      have := Nat.and_two_pow_sub_one_eq_mod ((18446744073709551616 - k) % 18446744073709551616) 5
      rw [show (31 : Nat) = 2 ^ 5 - 1 from rfl, this]; omega
    rw [e2]
    have : 32 - k < 256 := by omega
    unfold asK
    rw [cond_blt, if_pos (by simp [half]; omega)]
    rfl
theorem rotL (e : EnSha E) (x : NoSha X) (N : Nat) (a : Nat) (h : H) :
    (callX E X (N + 1) (.fn k_math_bits_RotateLeft32) [.int .u32 (a : Int), .int .i64 (-7)] h = some (.int .u32 (rl a 25 : Nat), h)) ∧
    (callX E X (N + 1) (.fn k_math_bits_RotateLeft32) [.int .u32 (a : Int), .int .i64 (-18)] h = some (.int .u32 (rl a 14 : Nat), h)) ∧
    (callX E X (N + 1) (.fn k_math_bits_RotateLeft32) [.int .u32 (a : Int), .int .i64 (-17)] h = some (.int .u32 (rl a 15 : Nat), h)) ∧
    (callX E X (N + 1) (.fn k_math_bits_RotateLeft32) [.int .u32 (a : Int), .int .i64 (-19)] h = some (.int .u32 (rl a 13 : Nat), h)) :=
  ⟨rot_go e x N a 7 (by omega) (by omega) h, rot_go e x N a 18 (by omega) (by omega) h, rot_go e x N a 17 (by omega) (by omega) h, rot_go e x N a 19 (by omega) (by omega) h⟩
theorem turned_go (e : EnSha E) (x : NoSha X) (N : Nat) (a i j k : Nat) (h1 : 1 ≤ i ∧ i ≤ 31) (h2 : 1 ≤ j ∧ j ≤ 31) (h3 : 1 ≤ k ∧ k ≤ 31) (h : H) :
    callX E X (N + 2) (.fn k_sha_turned) [.int .u32 (a : Int), .int .i64 (i : Int), .int .i64 (j : Int), .int .i64 (k : Int)] h = some (.int .u32 (trn a i j k : Nat), h) := by
  rw [x_cfn e.turned _ _ (Nat.le_of_ble_eq_true rfl) (x.turned _ _)]
  have r1 := fun h => rot_go e x N a i h1.1 h1.2 h
  have r2 := fun h => rot_go e x N a j h2.1 h2.2 h
  have r3 := fun h => rot_go e x N a k h3.1 h3.2 h
  have w1 : wr .i64 (0 - (i : Int)) = -(i : Int) := by rw [wr_i64 (by omega)]; omega
  have w2 : wr .i64 (0 - (j : Int)) = -(j : Int) := by rw [wr_i64 (by omega)]; omega
  have w3 : wr .i64 (0 - (k : Int)) = -(k : Int) := by rw [wr_i64 (by omega)]; omega
  simp (config := {maxSteps := 2000000}) (disch := first | omega | (simp only [List.length_cons, List.length_nil, List.length_append, List.length_drop]; omega)) only [r1, r2, r3, w1, w2, w3, ↓b_xor32, ↓b_and32, ↓b_or32, ↓u_not32, b_xor32, b_and32, b_or32, u_not32, w32ad, ↓x_conv, x_convV, ↓x_fieldAddr, x_fieldV, ↓s_nilchk, x_nilchk, Nat.zero_add, Nat.add_zero, Nat.mul_one, ↓l_loop, ↓l_succ, ↓l_normal, l_normal, l_exit, l_ret, l_iteN, ↓h_put_get, ↓h_new_get, ↓h_del_get, h_next_put, h_next_new, h_next_del, Nat.add_assoc, Nat.add_eq_left, Nat.left_eq_add, Nat.add_left_cancel_iff, ↓s_load, m_load, ↓m_load1, m_load1, ↓m_st, m_stE, m_storeI, m_storeE, w_zero, w_succ, ↓s_alloc, ↓x_idxA, ↓x_idxS, x_idxAE, x_idxSE, x_addrE, x_idx, x_lenS, ↓s_len, ↓x_buildS, x_buildE, ↓x_P0, ↓x_P1, x_fill0, x_filli, x_fills, x_fillb, c_int, List.length_cons, List.length_nil, List.cons_append, List.drop_succ_cons, List.drop_zero, List.drop_nil, List.nil_append, Int.reduceAdd, Int.reduceToNat, Int.reduceLT, Int.reduceLE, Nat.reduceAdd, Nat.reduceMul, Nat.reduceLeDiff, Int.reduceEq, Int.reduceSub, Int.cast_ofNat_Int, s_resc, s_consR, m_load4, m_store4, s_res0, ↓s_skip, ↓s_ops, ↓s_dops, ↓s_seq, ↓s_cond, ↓s_block, ↓s_exit, ↓s_ret, ↓s_scope, ↓s_nil, ↓s_op, ↓s_opg, ↓s_wanted', ↓s_wantV, s_wantV, s_wantV0, beq_true, beq_false, ↓s_bindS, s_bindS, ↓s_bindE, s_bindE, s_bindE_ret, s_bindE_exit, s_bindE_iteN, s_norm, ↓s_condV, s_condV, s_block_ret, s_block_normal, s_block_exit, s_block_iteN, ↓s_getp, ↓s_getp0, ↓s_get, s_get0, ↓s_con, ↓s_fn, ↓s_os0, ↓s_os1, ↓s_list0, ↓s_list1, ↓s_mov, ↓s_pick, ↓s_pickE, s_pickE, ↓s_bin, ↓s_un, ↓s_minmax, ↓s_call, ↓s_callv, ↓s_callV, ↓s_ext, s_same, b_eql, b_neq, b_lss, b_leq, b_gtr, b_geq, b_add, b_sub, b_mul, b_eqlb, b_neqb, b_fnil, b_fnil', b_fnil2, b_fnil2', u_neg, u_not, m_two, s_end, s_end', s_end_iteN, s_res0, s_res1, s_tup1, s_tup2, ↓iteN_true, ↓iteN_false, iteN_true, iteN_false, Nat.zero_add, List.nil_append, List.append_nil, Nat.reduceEqDiff, reduceIte, decide_true, decide_false, Bool.not_true, Bool.not_false, List.getElem?_cons_zero, List.getElem?_cons_succ, Bool.false_eq_true, if_true, if_false, beq_self_eq_true]
  rfl
theorem turnedL (e : EnSha E) (x : NoSha X) (N : Nat) (a : Nat) (h : H) :
    (callX E X (N + 2) (.fn k_sha_turned) [.int .u32 (a : Int), .int .i64 6, .int .i64 11, .int .i64 25] h = some (.int .u32 (trn a 6 11 25 : Nat), h)) ∧
    (callX E X (N + 2) (.fn k_sha_turned) [.int .u32 (a : Int), .int .i64 2, .int .i64 13, .int .i64 22] h = some (.int .u32 (trn a 2 13 22 : Nat), h)) :=
  ⟨turned_go e x N a 6 11 25 (by omega) (by omega) (by omega) h, turned_go e x N a 2 13 22 (by omega) (by omega) (by omega) h⟩
def seqP (k : IntKind) : Nat → List Nat → List (Nat × Nat × V)
  | _, [] => []
  | i, a :: r => (i, 1, .int k (a : Int)) :: seqP k (i + 1) r
theorem fill_seq (k : IntKind) : ∀ (l : List Nat) (pre post : List V), post.length = l.length → fillV (pre ++ post) (seqP k pre.length l) = some (pre ++ ofI k l) := by
  intro l
  induction l with
  | nil => intro pre post h; cases post with | nil => rfl | cons => cases h
  | cons a r ih =>
    intro pre post h
    cases post with
    | nil => cases h
    | cons v post =>
      show fillV _ ((pre.length, 1, .int k (a : Int)) :: seqP k (pre.length + 1) r) = _
      rw [x_filli _ _ _ _ _ (by simp), writeN_eq _ _ _ (by simp)]
      have := ih (pre ++ [.int k (a : Int)]) post (by simpa using h)
      rw [List.length_append] at this
      simp only [List.length_cons, List.length_nil, Nat.zero_add] at this
      have e1 : (pre ++ v :: post).take pre.length ++ [V.int k (a : Int)] ++ (pre ++ v :: post).drop (pre.length + [V.int k (a : Int)].length) = pre ++ [V.int k (a : Int)] ++ post := by simp
      rw [e1, this]
      simp [ofI]
theorem fill_seq0 (k : IntKind) (l : List Nat) (z : List V) (hz : z.length = l.length) : fillV z (seqP k 0 l) = some (ofI k l) := by
  have := fill_seq k l [] z hz
  simpa using this
def cubes : List Nat := [1116352408, 1899447441, 3049323471, 3921009573, 961987163, 1508970993, 2453635748, 2870763221, 3624381080, 310598401, 607225278, 1426881987, 1925078388, 2162078206, 2614888103, 3248222580, 3835390401, 4022224774, 264347078, 604807628, 770255983, 1249150122, 1555081692, 1996064986, 2554220882, 2821834349, 2952996808, 3210313671, 3336571891, 3584528711, 113926993, 338241895, 666307205, 773529912, 1294757372, 1396182291, 1695183700, 1986661051, 2177026350, 2456956037, 2730485921, 2820302411, 3259730800, 3345764771, 3516065817, 3600352804, 4094571909, 275423344, 430227734, 506948616, 659060556, 883997877, 958139571, 1322822218, 1537002063, 1747873779, 1955562222, 2024104815, 2227730452, 2361852424, 2428436474, 2756734187, 3204031479, 3329325298]
def squaresL : List Nat := [1779033703, 3144134277, 1013904242, 2773480762, 1359893119, 2600822924, 528734635, 1541459225]
theorem square_go (e : EnSha E) (x : NoSha X) (N : Nat) (h : H) : ∃ h', callX E X (N + 1) (.fn k_sha_squareTable) [] h = some (.agg (ofI .u32 squaresL), h') ∧ Kp h h' := by
  rw [x_cfn e.square _ _ (Nat.le_of_ble_eq_true rfl) (x.square _ _)]
  have F : ∀ T : Tr V, fillV [.int .u32 0, .int .u32 0, .int .u32 0, .int .u32 0, .int .u32 0, .int .u32 0, .int .u32 0, .int .u32 0] (evP T [(0, 1, (.c (.int .u32 1779033703))), (1, 1, (.c (.int .u32 3144134277))), (2, 1, (.c (.int .u32 1013904242))), (3, 1, (.c (.int .u32 2773480762))), (4, 1, (.c (.int .u32 1359893119))), (5, 1, (.c (.int .u32 2600822924))), (6, 1, (.c (.int .u32 528734635))), (7, 1, (.c (.int .u32 1541459225)))]) = some (ofI .u32 squaresL) := fun T => by rw [show evP T _ = seqP .u32 0 squaresL from rfl]; exact fill_seq0 _ _ _ rfl
  have S : ∀ (h : H) (i : Nat), storeV h 8 (.ptr (some (i, 0))) (.agg (ofI .u32 squaresL)) = storeE (h.get i) h i 0 (ofI .u32 squaresL) := fun h i => m_storeA h 8 i 0 _ rfl
  have R : ∀ m, loadE (some (.cells (ofI .u32 squaresL) m)) (some 8) 0 = some (.agg (ofI .u32 squaresL)) := fun m => by rw [m_loadN, x_readAll _ 8 rfl]
  have W : writeN [.int .u32 0, .int .u32 0, .int .u32 0, .int .u32 0, .int .u32 0, .int .u32 0, .int .u32 0, .int .u32 0] 0 (ofI .u32 squaresL) = ofI .u32 squaresL := by rw [w_zero]; simp only [ofI_len]; exact List.append_nil _
  have L : (ofI .u32 squaresL).length = 8 := rfl
  generalize ofI .u32 squaresL = sq at *
  simp (config := {maxSteps := 2000000}) (disch := first | omega | (simp only [List.length_cons, List.length_nil, List.length_append, List.length_drop]; omega)) only [↓F, S, W, R, L, ↓x_build, x_aggO, ↓b_xor32, ↓b_and32, ↓b_or32, ↓u_not32, b_xor32, b_and32, b_or32, u_not32, w32ad, ↓x_conv, x_convV, ↓x_fieldAddr, x_fieldV, ↓s_nilchk, x_nilchk, Nat.zero_add, Nat.add_zero, Nat.mul_one, ↓l_loop, ↓l_succ, ↓l_normal, l_normal, l_exit, l_ret, l_iteN, ↓h_put_get, ↓h_new_get, ↓h_del_get, h_next_put, h_next_new, h_next_del, Nat.add_assoc, Nat.add_eq_left, Nat.left_eq_add, Nat.add_left_cancel_iff, ↓s_load, m_load, ↓m_load1, m_load1, ↓m_st, m_stE, m_storeI, m_storeE, ↓s_alloc, ↓x_idxA, ↓x_idxS, x_idxAE, x_idxSE, x_addrE, x_idx, x_lenS, ↓s_len, ↓x_buildS, x_buildE, ↓x_P0, ↓x_P1, x_fill0, x_filli, x_fills, x_fillb, c_int, List.length_cons, List.length_nil, List.cons_append, List.drop_succ_cons, List.drop_zero, List.drop_nil, List.nil_append, Int.reduceAdd, Int.reduceToNat, Int.reduceLT, Int.reduceLE, Nat.reduceAdd, Nat.reduceMul, Nat.reduceLeDiff, Int.reduceEq, Int.reduceSub, Int.cast_ofNat_Int, s_resc, s_consR, m_load4, m_store4, s_res0, ↓s_skip, ↓s_ops, ↓s_dops, ↓s_seq, ↓s_cond, ↓s_block, ↓s_exit, ↓s_ret, ↓s_scope, ↓s_nil, ↓s_op, ↓s_opg, ↓s_wanted', ↓s_wantV, s_wantV, s_wantV0, beq_true, beq_false, ↓s_bindS, s_bindS, ↓s_bindE, s_bindE, s_bindE_ret, s_bindE_exit, s_bindE_iteN, s_norm, ↓s_condV, s_condV, s_block_ret, s_block_normal, s_block_exit, s_block_iteN, ↓s_getp, ↓s_getp0, ↓s_get, s_get0, ↓s_con, ↓s_fn, ↓s_os0, ↓s_os1, ↓s_list0, ↓s_list1, ↓s_mov, ↓s_pick, ↓s_pickE, s_pickE, ↓s_bin, ↓s_un, ↓s_minmax, ↓s_call, ↓s_callv, ↓s_callV, ↓s_ext, s_same, b_eql, b_neq, b_lss, b_leq, b_gtr, b_geq, b_add, b_sub, b_mul, b_eqlb, b_neqb, b_fnil, b_fnil', b_fnil2, b_fnil2', u_neg, u_not, m_two, s_end, s_end', s_end_iteN, s_res0, s_res1, s_tup1, s_tup2, ↓iteN_true, ↓iteN_false, iteN_true, iteN_false, Nat.zero_add, List.nil_append, List.append_nil, Nat.reduceEqDiff, reduceIte, decide_true, decide_false, Bool.not_true, Bool.not_false, List.getElem?_cons_zero, List.getElem?_cons_succ, Bool.false_eq_true, if_true, if_false, beq_self_eq_true]
  exact ⟨_, rfl, (Kp.new _ _).put _ (Nat.le_refl _)⟩
theorem cube_go (e : EnSha E) (x : NoSha X) (N : Nat) (h : H) : ∃ h', callX E X (N + 1) (.fn k_sha_cubeTable) [] h = some (.agg (ofI .u32 cubes), h') ∧ Kp h h' := by
  rw [x_cfn e.cube _ _ (Nat.le_of_ble_eq_true rfl) (x.cube _ _)]
  have F : ∀ T : Tr V, fillV [.int .u32 0, .int .u32 0, .int .u32 0, .int .u32 0, .int .u32 0, .int .u32 0, .int .u32 0, .int .u32 0, .int .u32 0, .int .u32 0, .int .u32 0, .int .u32 0, .int .u32 0, .int .u32 0, .int .u32 0, .int .u32 0, .int .u32 0, .int .u32 0, .int .u32 0, .int .u32 0, .int .u32 0, .int .u32 0, .int .u32 0, .int .u32 0, .int .u32 0, .int .u32 0, .int .u32 0, .int .u32 0, .int .u32 0, .int .u32 0, .int .u32 0, .int .u32 0, .int .u32 0, .int .u32 0, .int .u32 0, .int .u32 0, .int .u32 0, .int .u32 0, .int .u32 0, .int .u32 0, .int .u32 0, .int .u32 0, .int .u32 0, .int .u32 0, .int .u32 0, .int .u32 0, .int .u32 0, .int .u32 0, .int .u32 0, .int .u32 0, .int .u32 0, .int .u32 0, .int .u32 0, .int .u32 0, .int .u32 0, .int .u32 0, .int .u32 0, .int .u32 0, .int .u32 0, .int .u32 0, .int .u32 0, .int .u32 0, .int .u32 0, .int .u32 0] (evP T [(0, 1, (.c (.int .u32 1116352408))), (1, 1, (.c (.int .u32 1899447441))), (2, 1, (.c (.int .u32 3049323471))), (3, 1, (.c (.int .u32 3921009573))), (4, 1, (.c (.int .u32 961987163))), (5, 1, (.c (.int .u32 1508970993))), (6, 1, (.c (.int .u32 2453635748))), (7, 1, (.c (.int .u32 2870763221))), (8, 1, (.c (.int .u32 3624381080))), (9, 1, (.c (.int .u32 310598401))), (10, 1, (.c (.int .u32 607225278))), (11, 1, (.c (.int .u32 1426881987))), (12, 1, (.c (.int .u32 1925078388))), (13, 1, (.c (.int .u32 2162078206))), (14, 1, (.c (.int .u32 2614888103))), (15, 1, (.c (.int .u32 3248222580))), (16, 1, (.c (.int .u32 3835390401))), (17, 1, (.c (.int .u32 4022224774))), (18, 1, (.c (.int .u32 264347078))), (19, 1, (.c (.int .u32 604807628))), (20, 1, (.c (.int .u32 770255983))), (21, 1, (.c (.int .u32 1249150122))), (22, 1, (.c (.int .u32 1555081692))), (23, 1, (.c (.int .u32 1996064986))), (24, 1, (.c (.int .u32 2554220882))), (25, 1, (.c (.int .u32 2821834349))), (26, 1, (.c (.int .u32 2952996808))), (27, 1, (.c (.int .u32 3210313671))), (28, 1, (.c (.int .u32 3336571891))), (29, 1, (.c (.int .u32 3584528711))), (30, 1, (.c (.int .u32 113926993))), (31, 1, (.c (.int .u32 338241895))), (32, 1, (.c (.int .u32 666307205))), (33, 1, (.c (.int .u32 773529912))), (34, 1, (.c (.int .u32 1294757372))), (35, 1, (.c (.int .u32 1396182291))), (36, 1, (.c (.int .u32 1695183700))), (37, 1, (.c (.int .u32 1986661051))), (38, 1, (.c (.int .u32 2177026350))), (39, 1, (.c (.int .u32 2456956037))), (40, 1, (.c (.int .u32 2730485921))), (41, 1, (.c (.int .u32 2820302411))), (42, 1, (.c (.int .u32 3259730800))), (43, 1, (.c (.int .u32 3345764771))), (44, 1, (.c (.int .u32 3516065817))), (45, 1, (.c (.int .u32 3600352804))), (46, 1, (.c (.int .u32 4094571909))), (47, 1, (.c (.int .u32 275423344))), (48, 1, (.c (.int .u32 430227734))), (49, 1, (.c (.int .u32 506948616))), (50, 1, (.c (.int .u32 659060556))), (51, 1, (.c (.int .u32 883997877))), (52, 1, (.c (.int .u32 958139571))), (53, 1, (.c (.int .u32 1322822218))), (54, 1, (.c (.int .u32 1537002063))), (55, 1, (.c (.int .u32 1747873779))), (56, 1, (.c (.int .u32 1955562222))), (57, 1, (.c (.int .u32 2024104815))), (58, 1, (.c (.int .u32 2227730452))), (59, 1, (.c (.int .u32 2361852424))), (60, 1, (.c (.int .u32 2428436474))), (61, 1, (.c (.int .u32 2756734187))), (62, 1, (.c (.int .u32 3204031479))), (63, 1, (.c (.int .u32 3329325298)))]) = some (ofI .u32 cubes) := fun T => by rw [show evP T _ = seqP .u32 0 cubes from rfl]; exact fill_seq0 _ _ _ rfl
  have S : ∀ (h : H) (i : Nat), storeV h 64 (.ptr (some (i, 0))) (.agg (ofI .u32 cubes)) = storeE (h.get i) h i 0 (ofI .u32 cubes) := fun h i => m_storeA h 64 i 0 _ rfl
  have R : ∀ m, loadE (some (.cells (ofI .u32 cubes) m)) (some 64) 0 = some (.agg (ofI .u32 cubes)) := fun m => by rw [m_loadN, x_readAll _ 64 rfl]
  have W : writeN [.int .u32 0, .int .u32 0, .int .u32 0, .int .u32 0, .int .u32 0, .int .u32 0, .int .u32 0, .int .u32 0, .int .u32 0, .int .u32 0, .int .u32 0, .int .u32 0, .int .u32 0, .int .u32 0, .int .u32 0, .int .u32 0, .int .u32 0, .int .u32 0, .int .u32 0, .int .u32 0, .int .u32 0, .int .u32 0, .int .u32 0, .int .u32 0, .int .u32 0, .int .u32 0, .int .u32 0, .int .u32 0, .int .u32 0, .int .u32 0, .int .u32 0, .int .u32 0, .int .u32 0, .int .u32 0, .int .u32 0, .int .u32 0, .int .u32 0, .int .u32 0, .int .u32 0, .int .u32 0, .int .u32 0, .int .u32 0, .int .u32 0, .int .u32 0, .int .u32 0, .int .u32 0, .int .u32 0, .int .u32 0, .int .u32 0, .int .u32 0, .int .u32 0, .int .u32 0, .int .u32 0, .int .u32 0, .int .u32 0, .int .u32 0, .int .u32 0, .int .u32 0, .int .u32 0, .int .u32 0, .int .u32 0, .int .u32 0, .int .u32 0, .int .u32 0] 0 (ofI .u32 cubes) = ofI .u32 cubes := by rw [w_zero]; simp only [ofI_len]; exact List.append_nil _
  have L : (ofI .u32 cubes).length = 64 := rfl
  generalize ofI .u32 cubes = sq at *
  simp (config := {maxSteps := 2000000}) (disch := first | omega | (simp only [List.length_cons, List.length_nil, List.length_append, List.length_drop]; omega)) only [↓F, S, W, R, L, ↓x_build, x_aggO, ↓b_xor32, ↓b_and32, ↓b_or32, ↓u_not32, b_xor32, b_and32, b_or32, u_not32, w32ad, ↓x_conv, x_convV, ↓x_fieldAddr, x_fieldV, ↓s_nilchk, x_nilchk, Nat.zero_add, Nat.add_zero, Nat.mul_one, ↓l_loop, ↓l_succ, ↓l_normal, l_normal, l_exit, l_ret, l_iteN, ↓h_put_get, ↓h_new_get, ↓h_del_get, h_next_put, h_next_new, h_next_del, Nat.add_assoc, Nat.add_eq_left, Nat.left_eq_add, Nat.add_left_cancel_iff, ↓s_load, m_load, ↓m_load1, m_load1, ↓m_st, m_stE, m_storeI, m_storeE, ↓s_alloc, ↓x_idxA, ↓x_idxS, x_idxAE, x_idxSE, x_addrE, x_idx, x_lenS, ↓s_len, ↓x_buildS, x_buildE, ↓x_P0, ↓x_P1, x_fill0, x_filli, x_fills, x_fillb, c_int, List.length_cons, List.length_nil, List.cons_append, List.drop_succ_cons, List.drop_zero, List.drop_nil, List.nil_append, Int.reduceAdd, Int.reduceToNat, Int.reduceLT, Int.reduceLE, Nat.reduceAdd, Nat.reduceMul, Nat.reduceLeDiff, Int.reduceEq, Int.reduceSub, Int.cast_ofNat_Int, s_resc, s_consR, m_load4, m_store4, s_res0, ↓s_skip, ↓s_ops, ↓s_dops, ↓s_seq, ↓s_cond, ↓s_block, ↓s_exit, ↓s_ret, ↓s_scope, ↓s_nil, ↓s_op, ↓s_opg, ↓s_wanted', ↓s_wantV, s_wantV, s_wantV0, beq_true, beq_false, ↓s_bindS, s_bindS, ↓s_bindE, s_bindE, s_bindE_ret, s_bindE_exit, s_bindE_iteN, s_norm, ↓s_condV, s_condV, s_block_ret, s_block_normal, s_block_exit, s_block_iteN, ↓s_getp, ↓s_getp0, ↓s_get, s_get0, ↓s_con, ↓s_fn, ↓s_os0, ↓s_os1, ↓s_list0, ↓s_list1, ↓s_mov, ↓s_pick, ↓s_pickE, s_pickE, ↓s_bin, ↓s_un, ↓s_minmax, ↓s_call, ↓s_callv, ↓s_callV, ↓s_ext, s_same, b_eql, b_neq, b_lss, b_leq, b_gtr, b_geq, b_add, b_sub, b_mul, b_eqlb, b_neqb, b_fnil, b_fnil', b_fnil2, b_fnil2', u_neg, u_not, m_two, s_end, s_end', s_end_iteN, s_res0, s_res1, s_tup1, s_tup2, ↓iteN_true, ↓iteN_false, iteN_true, iteN_false, Nat.zero_add, List.nil_append, List.append_nil, Nat.reduceEqDiff, reduceIte, decide_true, decide_false, Bool.not_true, Bool.not_false, List.getElem?_cons_zero, List.getElem?_cons_succ, Bool.false_eq_true, if_true, if_false, beq_self_eq_true]
  exact ⟨_, rfl, (Kp.new _ _).put _ (Nat.le_refl _)⟩
end Go.Eng
namespace Go.Eng
open Go
variable {E : Nat → Option Fn} {X : Orc}
set_option linter.unusedSimpArgs false
set_option linter.unusedVariables false
/-- the cells of a sum -/
def sumC (st blk : List Nat) (len : Nat) : List V := ofI .u32 st ++ (ofI .u8 blk ++ [.int .u64 (len : Int), .bool true])
theorem sumC_len (st blk : List Nat) (len : Nat) (h1 : st.length = 8) (h2 : blk.length = 64) : (sumC st blk len).length = 74 := by
  simp [sumC, ofI_len, h1, h2]
theorem sumC_b (st blk : List Nat) (len j : Nat) (h1 : st.length = 8) (h2 : j < blk.length) : (sumC st blk len)[8 + j]? = some (.int .u8 (blk.getD j 0 : Nat)) := by
  unfold sumC
  rw [List.getElem?_append_right (by simp [ofI_len, h1]), ofI_len, h1, Nat.add_sub_cancel_left, List.getElem?_append_left (by simpa [ofI_len] using h2), ofI_get _ _ _ h2]
theorem sumC_s (st blk : List Nat) (len j : Nat) (h1 : st.length = 8) (h2 : j < 8) : (sumC st blk len)[j]? = some (.int .u32 (st.getD j 0 : Nat)) := by
  unfold sumC
  rw [List.getElem?_append_left (by simp [ofI_len, h1, h2]), ofI_get _ _ _ (by omega)]
theorem sumC_l (st blk : List Nat) (len : Nat) (h1 : st.length = 8) (h2 : blk.length = 64) : (sumC st blk len)[72]? = some (.int .u64 (len : Int)) := by
  unfold sumC
  rw [List.getElem?_append_right (by simp [ofI_len, h1]), ofI_len, h1, List.getElem?_append_right (by simp [ofI_len, h2]), ofI_len, h2]; rfl
theorem sumC_o (st blk : List Nat) (len : Nat) (h1 : st.length = 8) (h2 : blk.length = 64) : (sumC st blk len)[73]? = some (.bool true) := by
  unfold sumC
  rw [List.getElem?_append_right (by simp [ofI_len, h1]), ofI_len, h1, List.getElem?_append_right (by simp [ofI_len, h2]), ofI_len, h2]; rfl
/-- the next word -/
def wnx (blk ws : List Nat) (i : Nat) : Nat :=
  if i < 16 then orr (orr (orr (sl (blk.getD (4 * i) 0 % 4294967296) 24) (sl (blk.getD (4 * i + 1) 0 % 4294967296) 16)) (sl (blk.getD (4 * i + 2) 0 % 4294967296) 8)) (blk.getD (4 * i + 3) 0 % 4294967296)
  else ad (ad (ad (ws.getD (i - 16) 0) (xr (xr (rl (ws.getD (i - 15) 0) 25) (rl (ws.getD (i - 15) 0) 14)) (sr (ws.getD (i - 15) 0) 3))) (ws.getD (i - 7) 0))
    (xr (xr (rl (ws.getD (i - 2) 0) 15) (rl (ws.getD (i - 2) 0) 13)) (sr (ws.getD (i - 2) 0) 10))
def wsN (blk : List Nat) : Nat → List Nat
  | 0 => []
  | n + 1 => wsN blk n ++ [wnx blk (wsN blk n) n]
theorem wsN_len (blk : List Nat) (n : Nat) : (wsN blk n).length = n := by
  induction n with
  | zero => rfl
  | succ n ih => simp [wsN, ih]
def wCells (blk : List Nat) (i : Nat) : List V := ofI .u32 (wsN blk i) ++ List.replicate (64 - i) (.int .u32 0)
theorem wCells_len (blk : List Nat) (i : Nat) (h : i ≤ 64) : (wCells blk i).length = 64 := by simp [wCells, ofI_len, wsN_len]; omega
theorem wCells_get (blk : List Nat) (i j : Nat) (h : j < i) : (wCells blk i)[j]? = some (.int .u32 ((wsN blk i).getD j 0 : Nat)) := by
  unfold wCells
  rw [List.getElem?_append_left (by rw [ofI_len, wsN_len]; exact h), ofI_get _ _ _ (by rw [wsN_len]; exact h)]
theorem wCells_put (blk : List Nat) (i : Nat) (h : i < 64) : writeN (wCells blk i) i [.int .u32 (wnx blk (wsN blk i) i : Nat)] = wCells blk (i + 1) := by
  rw [writeN_eq _ _ _ (by rw [wCells_len _ _ (by omega)]; omega)]
  have hl : (ofI .u32 (wsN blk i)).length = i := by rw [ofI_len, wsN_len]
  have e1 : (wCells blk i).take i = ofI .u32 (wsN blk i) := by
    unfold wCells; rw [List.take_left' hl]
  have e2 : (wCells blk i).drop (i + 1) = List.replicate (63 - i) (.int .u32 0) := by
    unfold wCells
    rw [List.drop_append, hl, List.drop_eq_nil_of_le (by omega), List.nil_append, List.drop_replicate]
    congr 1; omega
  simp only [List.length_cons, List.length_nil, Nat.zero_add, e1, e2]
  unfold wCells
  rw [wsN, ofI_app, show 64 - (i + 1) = 63 - i by omega]
  rfl
structure SI (p q r : Nat) (st blk : List Nat) (len : Nat) (md : Md) (h0 : H) (i : Nat) (T : Tr V) (h : H) : Prop where
  i64 : i ≤ 64
  t0 : evO T (.t 0) = .ptr (some (p, 0))
  t2 : evO T (.t 2) = .ptr (some (r, 0))
  t3 : evO T (.t 3) = .ptr (some (q, 0))
  t10 : evO T (.t 10) = .int .i64 (i : Int)
  gq : h.get q = some (.cells (wCells blk i) .rw)
  eq : Eqx q h0 h
theorem sched_step (e : EnSha E) (x : NoSha X) (N n p q r : Nat) (hpq : p ≠ q) (st blk : List Nat) (len : Nat) (md : Md) (h0 : H) (h1 : st.length = 8) (h2 : blk.length = 64) (hp : h0.get p = some (.cells (sumC st blk len) md)) :
    ∀ i T h, i < 64 → SI p q r st blk len md h0 i T h → ∃ T' h', evC (callX E X (N + 1)) 89 n none L_sha_Sum_schedule_0 ⟨T, [], h⟩ = some (.normal, ⟨T', [], h'⟩) ∧ SI p q r st blk len md h0 (i + 1) T' h' := by
  intro i T h hi ⟨_, t0, t2, t3, t10, gq, eq⟩
  have gp : h.get p = some (.cells (sumC st blk len) md) := by rw [eq.2 p hpq, hp]
  have c0 : decide ((i : Int) < 64) = true := decide_eq_true (by omega)
  have wi : wr .i64 ((i : Int) + 1) = ((i + 1 : Nat) : Int) := by rw [wr_i64 (by omega)]; omega
  have ix : idx (i : Int) 64 = some i := idxn hi
  obtain ⟨w, ew⟩ : ∃ w, wnx blk (wsN blk i) i = w := ⟨_, rfl⟩
  have wp := wCells_put blk i hi
  rw [ew] at wp
  have wg := fun j => wCells_get blk i j
  have wl := wCells_len blk i (by omega)
  generalize wCells blk i = cs at *
  have ste : ∀ (h : H) (v : V), storeE (some (.cells cs .rw)) h q i [v] = some (h.put q (.cells (writeN cs i [v]) .rw)) := fun h v => m_storeE _ _ _ _ _ (by rw [wl]; exact hi)
  by_cases h16 : i < 16
  · have c1 : decide ((i : Int) < 16) = true := decide_eq_true (by omega)
    have w4 : wr .i64 (4 * (i : Int)) = ((4 * i : Nat) : Int) := by rw [wr_i64 (by omega)]; omega
    have w44 : wr .i64 (((4 * i : Nat) : Int) + 4) = ((4 * i + 4 : Nat) : Int) := by rw [wr_i64 (by omega)]; omega
    have b0 := sumC_b st blk len (4 * i) h1 (by omega)
    have b1 := sumC_b st blk len (4 * i + 1) h1 (by omega)
    have b2 := sumC_b st blk len (4 * i + 2) h1 (by omega)
    have b3 := sumC_b st blk len (4 * i + 3) h1 (by omega)
    have sle := sumC_len st blk len h1 h2
    have sb : ∀ h, slcB (some (.cells (sumC st blk len) md)) 64 1 p 8 (some (.int .i64 ((4 * i : Nat) : Int))) (some (.int .i64 ((4 * i + 4 : Nat) : Int))) h = some (.slice (some (p, 8 + 4 * i)) 4 (some (64 - 4 * i)) 1, h) := by
      intro h
      rw [x_slcB _ _ _ _ _ _ _ _ _ _ _ (by rw [sle]; omega) (x_bnd _ _ _ _ (by omega)) (x_bnd _ _ _ _ (by omega)), Nat.mul_one, Nat.add_sub_cancel_left]
    generalize sumC st blk len = sc at *
    have s24 : ∀ e h (a : Nat), binV .shl e h (.int .u32 (a : Int)) (.int .u64 24) = some (.int .u32 (sl a 24 : Nat)) := fun e h a => b_shl32 e h a 24 (by omega)
    have s16 : ∀ e h (a : Nat), binV .shl e h (.int .u32 (a : Int)) (.int .u64 16) = some (.int .u32 (sl a 16 : Nat)) := fun e h a => b_shl32 e h a 16 (by omega)
    have s8 : ∀ e h (a : Nat), binV .shl e h (.int .u32 (a : Int)) (.int .u64 8) = some (.int .u32 (sl a 8 : Nat)) := fun e h a => b_shl32 e h a 8 (by omega)
    unfold wnx at ew
    rw [if_pos h16] at ew
    refine ⟨_, _, by
      simp (config := {maxSteps := 2000000}) (disch := first | omega | (simp only [List.length_cons, List.length_nil, List.length_append, List.length_drop]; omega)) only [L_sha_Sum_schedule_0, t0, t3, t10, gp, gq, c0, c1, wi, w4, w44, ix, b0, b1, b2, b3, sb, s24, s16, s8, w32, ew, ste, ↓x_slcA, x_slcAE, x_M1, x_M0, x_idx, ↓b_xor32, ↓b_and32, ↓b_or32, ↓u_not32, b_xor32, b_and32, b_or32, u_not32, w32ad, ↓x_conv, x_convV, ↓x_fieldAddr, x_fieldV, ↓s_nilchk, x_nilchk, Nat.zero_add, Nat.add_zero, Nat.mul_one, ↓s_evD, ↓s_dnil, ↓s_dL, ↓s_dLg, ↓s_dR, ↓s_dRg, ↓s_dRj, ↓s_dRjg, ↓s_dB, ↓s_dBg, ↓s_dAlloc, ↓s_bindD, s_bindD, s_finD, s_finDx, s_addP0, s_addP1, s_addB, s_lookP, ↓s_bump0, ↓s_bump_get, s_bump_next, s_ok0, ↓s_ok1, s_okR0, ↓s_okR1, ↓s_okE, s_okE, s_okE1, s_nth0, s_nthS, Nat.add_zero, Bool.and_self, Bool.and_true, Bool.true_and, ↓l_loop, ↓l_succ, ↓l_normal, l_normal, l_exit, l_ret, l_iteN, ↓h_put_get, ↓h_new_get, ↓h_del_get, h_next_put, h_next_new, h_next_del, Nat.add_assoc, Nat.add_eq_left, Nat.left_eq_add, Nat.add_left_cancel_iff, ↓s_load, m_load, ↓m_load1, m_load1, ↓m_st, m_stE, m_storeI, w_zero, w_succ, ↓s_alloc, ↓x_idxA, ↓x_idxS, x_idxAE, x_idxSE, x_addrE, x_idx, x_lenS, ↓s_len, ↓x_buildS, x_buildE, ↓x_P0, ↓x_P1, x_fill0, x_filli, x_fills, x_fillb, c_int, List.length_cons, List.length_nil, List.cons_append, List.drop_succ_cons, List.drop_zero, List.drop_nil, List.nil_append, Int.reduceAdd, Int.reduceToNat, Int.reduceLT, Int.reduceLE, Nat.reduceAdd, Nat.reduceMul, Nat.reduceLeDiff, Int.reduceEq, Int.reduceSub, Int.cast_ofNat_Int, s_resc, s_consR, m_load4, m_store4, s_res0, ↓s_skip, ↓s_ops, ↓s_dops, ↓s_seq, ↓s_cond, ↓s_block, ↓s_exit, ↓s_ret, ↓s_scope, ↓s_nil, ↓s_op, ↓s_opg, ↓s_wanted', ↓s_wantV, s_wantV, s_wantV0, beq_true, beq_false, ↓s_bindS, s_bindS, ↓s_bindE, s_bindE, s_bindE_ret, s_bindE_exit, s_bindE_iteN, s_norm, ↓s_condV, s_condV, s_block_ret, s_block_normal, s_block_exit, s_block_iteN, ↓s_getp, ↓s_getp0, ↓s_get, s_get0, ↓s_con, ↓s_fn, ↓s_os0, ↓s_os1, ↓s_list0, ↓s_list1, ↓s_mov, ↓s_pick, ↓s_pickE, s_pickE, ↓s_bin, ↓s_un, ↓s_minmax, ↓s_call, ↓s_callv, ↓s_callV, ↓s_ext, s_same, b_eql, b_neq, b_lss, b_leq, b_gtr, b_geq, b_add, b_sub, b_mul, b_eqlb, b_neqb, b_fnil, b_fnil', b_fnil2, b_fnil2', u_neg, u_not, m_two, s_end, s_end', s_end_iteN, s_res0, s_res1, s_tup1, s_tup2, ↓iteN_true, ↓iteN_false, iteN_true, iteN_false, Nat.zero_add, List.nil_append, List.append_nil, Nat.reduceEqDiff, reduceIte, decide_true, decide_false, Bool.not_true, Bool.not_false, List.getElem?_cons_zero, List.getElem?_cons_succ, Bool.false_eq_true, if_true, if_false, beq_self_eq_true]
      exact rfl, ⟨by omega, (by (simp only [s_getp, s_getp0, Nat.reduceEqDiff, decide_false, decide_true, iteN_false, iteN_true, t0]; try rfl)), (by (simp only [s_getp, s_getp0, Nat.reduceEqDiff, decide_false, decide_true, iteN_false, iteN_true, t2]; try rfl)), (by (simp only [s_getp, s_getp0, Nat.reduceEqDiff, decide_false, decide_true, iteN_false, iteN_true, t3]; try rfl)), (by (simp only [s_getp, s_getp0, Nat.reduceEqDiff, decide_false, decide_true, iteN_false, iteN_true, t0]; try rfl)), ?_, eq.put _⟩⟩
    rw [h_put_same, wp]
  · have c1 : decide ((i : Int) < 16) = false := decide_eq_false (by omega)
    have w15 : wr .i64 ((i : Int) - 15) = ((i - 15 : Nat) : Int) := by rw [wr_i64 (by omega)]; omega
    have w2 : wr .i64 ((i : Int) - 2) = ((i - 2 : Nat) : Int) := by rw [wr_i64 (by omega)]; omega
    have w16 : wr .i64 ((i : Int) - 16) = ((i - 16 : Nat) : Int) := by rw [wr_i64 (by omega)]; omega
    have w7 : wr .i64 ((i : Int) - 7) = ((i - 7 : Nat) : Int) := by rw [wr_i64 (by omega)]; omega
    have x15 : idx ((i - 15 : Nat) : Int) 64 = some (i - 15) := idxn (by omega)
    have x2 : idx ((i - 2 : Nat) : Int) 64 = some (i - 2) := idxn (by omega)
    have x16 : idx ((i - 16 : Nat) : Int) 64 = some (i - 16) := idxn (by omega)
    have x7 : idx ((i - 7 : Nat) : Int) 64 = some (i - 7) := idxn (by omega)
    have g15 := wg (i - 15) (by omega)
    have g2 := wg (i - 2) (by omega)
    have g16 := wg (i - 16) (by omega)
    have g7 := wg (i - 7) (by omega)
    have s3 : ∀ e h (a : Nat), binV .shr e h (.int .u32 (a : Int)) (.int .u64 3) = some (.int .u32 (sr a 3 : Nat)) := fun e h a => b_shr32 e h a 3 (by omega)
    have s10 : ∀ e h (a : Nat), binV .shr e h (.int .u32 (a : Int)) (.int .u64 10) = some (.int .u32 (sr a 10 : Nat)) := fun e h a => b_shr32 e h a 10 (by omega)
    have r7 := fun a h => (rotL e x N a h).1
    have r18 := fun a h => (rotL e x N a h).2.1
    have r17 := fun a h => (rotL e x N a h).2.2.1
    have r19 := fun a h => (rotL e x N a h).2.2.2
    unfold wnx at ew
    rw [if_neg h16] at ew
    refine ⟨_, _, by
      simp (config := {maxSteps := 2000000}) (disch := first | omega | (simp only [List.length_cons, List.length_nil, List.length_append, List.length_drop]; omega)) only [L_sha_Sum_schedule_0, t0, t3, t10, gp, gq, c0, c1, wi, w15, w2, w16, w7, x15, x2, x16, x7, ix, g15, g2, g16, g7, s3, s10, r7, r18, r17, r19, ew, ste, x_M1, x_M0, x_idx, ↓b_xor32, ↓b_and32, ↓b_or32, ↓u_not32, b_xor32, b_and32, b_or32, u_not32, w32ad, ↓x_conv, x_convV, ↓x_fieldAddr, x_fieldV, ↓s_nilchk, x_nilchk, Nat.zero_add, Nat.add_zero, Nat.mul_one, ↓s_evD, ↓s_dnil, ↓s_dL, ↓s_dLg, ↓s_dR, ↓s_dRg, ↓s_dRj, ↓s_dRjg, ↓s_dB, ↓s_dBg, ↓s_dAlloc, ↓s_bindD, s_bindD, s_finD, s_finDx, s_addP0, s_addP1, s_addB, s_lookP, ↓s_bump0, ↓s_bump_get, s_bump_next, s_ok0, ↓s_ok1, s_okR0, ↓s_okR1, ↓s_okE, s_okE, s_okE1, s_nth0, s_nthS, Nat.add_zero, Bool.and_self, Bool.and_true, Bool.true_and, ↓l_loop, ↓l_succ, ↓l_normal, l_normal, l_exit, l_ret, l_iteN, ↓h_put_get, ↓h_new_get, ↓h_del_get, h_next_put, h_next_new, h_next_del, Nat.add_assoc, Nat.add_eq_left, Nat.left_eq_add, Nat.add_left_cancel_iff, ↓s_load, m_load, ↓m_load1, m_load1, ↓m_st, m_stE, m_storeI, w_zero, w_succ, ↓s_alloc, ↓x_idxA, ↓x_idxS, x_idxAE, x_idxSE, x_addrE, x_idx, x_lenS, ↓s_len, ↓x_buildS, x_buildE, ↓x_P0, ↓x_P1, x_fill0, x_filli, x_fills, x_fillb, c_int, List.length_cons, List.length_nil, List.cons_append, List.drop_succ_cons, List.drop_zero, List.drop_nil, List.nil_append, Int.reduceAdd, Int.reduceToNat, Int.reduceLT, Int.reduceLE, Nat.reduceAdd, Nat.reduceMul, Nat.reduceLeDiff, Int.reduceEq, Int.reduceSub, Int.cast_ofNat_Int, s_resc, s_consR, m_load4, m_store4, s_res0, ↓s_skip, ↓s_ops, ↓s_dops, ↓s_seq, ↓s_cond, ↓s_block, ↓s_exit, ↓s_ret, ↓s_scope, ↓s_nil, ↓s_op, ↓s_opg, ↓s_wanted', ↓s_wantV, s_wantV, s_wantV0, beq_true, beq_false, ↓s_bindS, s_bindS, ↓s_bindE, s_bindE, s_bindE_ret, s_bindE_exit, s_bindE_iteN, s_norm, ↓s_condV, s_condV, s_block_ret, s_block_normal, s_block_exit, s_block_iteN, ↓s_getp, ↓s_getp0, ↓s_get, s_get0, ↓s_con, ↓s_fn, ↓s_os0, ↓s_os1, ↓s_list0, ↓s_list1, ↓s_mov, ↓s_pick, ↓s_pickE, s_pickE, ↓s_bin, ↓s_un, ↓s_minmax, ↓s_call, ↓s_callv, ↓s_callV, ↓s_ext, s_same, b_eql, b_neq, b_lss, b_leq, b_gtr, b_geq, b_add, b_sub, b_mul, b_eqlb, b_neqb, b_fnil, b_fnil', b_fnil2, b_fnil2', u_neg, u_not, m_two, s_end, s_end', s_end_iteN, s_res0, s_res1, s_tup1, s_tup2, ↓iteN_true, ↓iteN_false, iteN_true, iteN_false, Nat.zero_add, List.nil_append, List.append_nil, Nat.reduceEqDiff, reduceIte, decide_true, decide_false, Bool.not_true, Bool.not_false, List.getElem?_cons_zero, List.getElem?_cons_succ, Bool.false_eq_true, if_true, if_false, beq_self_eq_true]
      exact rfl, ⟨by omega, (by (simp only [s_getp, s_getp0, Nat.reduceEqDiff, decide_false, decide_true, iteN_false, iteN_true, t0]; try rfl)), (by (simp only [s_getp, s_getp0, Nat.reduceEqDiff, decide_false, decide_true, iteN_false, iteN_true, t2]; try rfl)), (by (simp only [s_getp, s_getp0, Nat.reduceEqDiff, decide_false, decide_true, iteN_false, iteN_true, t3]; try rfl)), (by (simp only [s_getp, s_getp0, Nat.reduceEqDiff, decide_false, decide_true, iteN_false, iteN_true, t0]; try rfl)), ?_, eq.put _⟩⟩
    rw [h_put_same, wp]
theorem sched_loop (e : EnSha E) (x : NoSha X) (N n p q r : Nat) (hn : 64 < n) (hpq : p ≠ q) (st blk : List Nat) (len : Nat) (md : Md) (h0 : H) (h1 : st.length = 8) (h2 : blk.length = 64) (hp : h0.get p = some (.cells (sumC st blk len) md)) (T : Tr V) (h : H) (I : SI p q r st blk len md h0 0 T h) :
    ∃ T' h', loopN (evC (callX E X (N + 1)) 89 n none L_sha_Sum_schedule_0) n ⟨T, [], h⟩ = some (.exit 0, ⟨T', [], h'⟩) ∧ SI p q r st blk len md h0 64 T' h' :=
  loop_go (SI p q r st blk len md h0) 64 (.exit 0) (by intro h; cases h) _ (sched_step e x N n p q r hpq st blk len md h0 h1 h2 hp) (fun T h I => by
    obtain ⟨a, t0, t2, t3, t10, gq, eq⟩ := I
    have c0 : decide (((64 : Nat) : Int) < 64) = false := rfl
    refine ⟨_, _, by
      simp (config := {maxSteps := 2000000}) (disch := first | omega | (simp only [List.length_cons, List.length_nil, List.length_append, List.length_drop]; omega)) only [L_sha_Sum_schedule_0, t10, c0, ↓b_xor32, ↓b_and32, ↓b_or32, ↓u_not32, b_xor32, b_and32, b_or32, u_not32, w32ad, ↓x_conv, x_convV, ↓x_fieldAddr, x_fieldV, ↓s_nilchk, x_nilchk, Nat.zero_add, Nat.add_zero, Nat.mul_one, ↓l_loop, ↓l_succ, ↓l_normal, l_normal, l_exit, l_ret, l_iteN, ↓h_put_get, ↓h_new_get, ↓h_del_get, h_next_put, h_next_new, h_next_del, Nat.add_assoc, Nat.add_eq_left, Nat.left_eq_add, Nat.add_left_cancel_iff, ↓s_load, m_load, ↓m_load1, m_load1, ↓m_st, m_stE, m_storeI, w_zero, w_succ, ↓s_alloc, ↓x_idxA, ↓x_idxS, x_idxAE, x_idxSE, x_addrE, x_idx, x_lenS, ↓s_len, ↓x_buildS, x_buildE, ↓x_P0, ↓x_P1, x_fill0, x_filli, x_fills, x_fillb, c_int, List.length_cons, List.length_nil, List.cons_append, List.drop_succ_cons, List.drop_zero, List.drop_nil, List.nil_append, Int.reduceAdd, Int.reduceToNat, Int.reduceLT, Int.reduceLE, Nat.reduceAdd, Nat.reduceMul, Nat.reduceLeDiff, Int.reduceEq, Int.reduceSub, Int.cast_ofNat_Int, s_resc, s_consR, m_load4, m_store4, s_res0, ↓s_skip, ↓s_ops, ↓s_dops, ↓s_seq, ↓s_cond, ↓s_block, ↓s_exit, ↓s_ret, ↓s_scope, ↓s_nil, ↓s_op, ↓s_opg, ↓s_wanted', ↓s_wantV, s_wantV, s_wantV0, beq_true, beq_false, ↓s_bindS, s_bindS, ↓s_bindE, s_bindE, s_bindE_ret, s_bindE_exit, s_bindE_iteN, s_norm, ↓s_condV, s_condV, s_block_ret, s_block_normal, s_block_exit, s_block_iteN, ↓s_getp, ↓s_getp0, ↓s_get, s_get0, ↓s_con, ↓s_fn, ↓s_os0, ↓s_os1, ↓s_list0, ↓s_list1, ↓s_mov, ↓s_pick, ↓s_pickE, s_pickE, ↓s_bin, ↓s_un, ↓s_minmax, ↓s_call, ↓s_callv, ↓s_callV, ↓s_ext, s_same, b_eql, b_neq, b_lss, b_leq, b_gtr, b_geq, b_add, b_sub, b_mul, b_eqlb, b_neqb, b_fnil, b_fnil', b_fnil2, b_fnil2', u_neg, u_not, m_two, s_end, s_end', s_end_iteN, s_res0, s_res1, s_tup1, s_tup2, ↓iteN_true, ↓iteN_false, iteN_true, iteN_false, Nat.zero_add, List.nil_append, List.append_nil, Nat.reduceEqDiff, reduceIte, decide_true, decide_false, Bool.not_true, Bool.not_false, List.getElem?_cons_zero, List.getElem?_cons_succ, Bool.false_eq_true, if_true, if_false, beq_self_eq_true]
      exact rfl, ⟨a, (by (simp only [s_getp, s_getp0, Nat.reduceEqDiff, decide_false, decide_true, iteN_false, iteN_true, t0]; try rfl)), (by (simp only [s_getp, s_getp0, Nat.reduceEqDiff, decide_false, decide_true, iteN_false, iteN_true, t2]; try rfl)), (by (simp only [s_getp, s_getp0, Nat.reduceEqDiff, decide_false, decide_true, iteN_false, iteN_true, t3]; try rfl)), (by (simp only [s_getp, s_getp0, Nat.reduceEqDiff, decide_false, decide_true, iteN_false, iteN_true, t10]; try rfl)), gq, eq⟩⟩) 64 0 rfl n hn T h I
theorem sched_go (e : EnSha E) (x : NoSha X) (N p : Nat) (st blk : List Nat) (len : Nat) (md : Md) (h : H) (h1 : st.length = 8) (h2 : blk.length = 64) (hp : h.get p = some (.cells (sumC st blk len) md)) (hpn : p < h.next) :
    ∃ h', callX E X (N + 70) (.fn k_sha_Sum_schedule) [.ptr (some (p, 0))] h = some (.agg (ofI .u32 (wsN blk 64)), h') ∧ Kp h h' := by
  rw [x_cfn e.sched _ _ (Nat.le_of_ble_eq_true rfl) (x.sched _ _)]
  have fin : ∀ T, SI p (h.next + 1) h.next st blk len md ((h.new (.cells (List.replicate 64 (.int .u32 0)) .rw)).new (.cells (List.replicate 64 (.int .u32 0)) .rw)) 0 T ((h.new (.cells (List.replicate 64 (.int .u32 0)) .rw)).new (.cells (List.replicate 64 (.int .u32 0)) .rw)) →
      ∃ h', fnEnd [.cell 2 (some 64)] (bindE (blockE 0 (loopN (evC (callX E X (N + 69)) 89 (N + 69) none L_sha_Sum_schedule_0) (N + 69) ⟨T, [], (h.new (.cells (List.replicate 64 (.int .u32 0)) .rw)).new (.cells (List.replicate 64 (.int .u32 0)) .rw)⟩)) (evC (callX E X (N + 69)) 89 (N + 69) none R_sha_Sum_schedule_0)) = some (.agg (ofI .u32 (wsN blk 64)), h') ∧ Kp h h' := by
    intro T I
    obtain ⟨T', h', r1, _, t0, t2, t3, t10, gq, eq⟩ := sched_loop e x (N + 68) (N + 69) p (h.next + 1) h.next (by omega) (by omega) st blk len md _ h1 h2 (by rw [h_new_ne _ _ (by rw [h_next_new]; omega), h_new_ne _ _ (by omega), hp]) T _ I
    rw [r1]
    have wc : wCells blk 64 = ofI .u32 (wsN blk 64) := by unfold wCells; simp
    rw [wc] at gq
    have hl : (ofI .u32 (wsN blk 64)).length = 64 := by rw [ofI_len, wsN_len]
    have gr : h'.get h.next = some (.cells (List.replicate 64 (.int .u32 0)) .rw) := by
      rw [eq.2 _ (by omega), h_new_ne _ _ (by rw [h_next_new]; omega), h_new_same]
    have K : Kp h h' := ⟨by rw [eq.1]; simp only [h_next_new]; omega, fun i hi => by rw [eq.2 _ (by omega), h_new_ne _ _ (by rw [h_next_new]; omega), h_new_ne _ _ (by omega)]⟩
    have hb : ∀ v ∈ ofI .u32 (wsN blk 64), plainV v = true := by
      generalize wsN blk 64 = l
      induction l with
      | nil => intro v hv; cases hv
      | cons a r ih => intro v hv; rcases List.mem_cons.1 hv with rfl | hv; rfl; exact ih v hv
    generalize ofI .u32 (wsN blk 64) = ws at *
    have ld : loadE (some (.cells ws .rw)) (some 64) 0 = some (.agg ws) := by rw [m_loadN, x_readAll _ 64 hl]
    have S : ∀ (h : H) (i : Nat), storeV h 64 (.ptr (some (i, 0))) (.agg ws) = storeE (h.get i) h i 0 ws := fun h i => m_storeA h 64 i 0 _ (by rw [hl]; simp only [Bool.and_eq_true, List.all_eq_true]; exact ⟨rfl, hb⟩)
    have W : writeN (List.replicate 64 (.int .u32 0)) 0 ws = ws := by rw [w_zero, hl]; simp
    have ste : ∀ (h : H), storeE (some (.cells (List.replicate 64 (.int .u32 0)) .rw)) h (Nat.succ 0 * 0 + h'.next) 0 ws = storeE (some (.cells (List.replicate 64 (.int .u32 0)) .rw)) h (Nat.succ 0 * 0 + h'.next) 0 ws := fun _ => rfl
    have st2 : storeE (some (.cells (List.replicate 64 (.int .u32 0)) .rw)) h' h.next 0 ws = some (h'.put h.next (.cells ws .rw)) := by rw [m_storeE _ _ _ _ _ (by rw [hl]; simp), W]
    simp (config := {maxSteps := 2000000}) (disch := first | omega | (simp only [List.length_cons, List.length_nil, List.length_append, List.length_drop]; omega)) only [R_sha_Sum_schedule_0, t2, t3, gq, gr, ld, S, st2, ↓b_xor32, ↓b_and32, ↓b_or32, ↓u_not32, b_xor32, b_and32, b_or32, u_not32, w32ad, ↓x_conv, x_convV, ↓x_fieldAddr, x_fieldV, ↓s_nilchk, x_nilchk, Nat.zero_add, Nat.add_zero, Nat.mul_one, ↓l_loop, ↓l_succ, ↓l_normal, l_normal, l_exit, l_ret, l_iteN, ↓h_put_get, ↓h_new_get, ↓h_del_get, h_next_put, h_next_new, h_next_del, Nat.add_assoc, Nat.add_eq_left, Nat.left_eq_add, Nat.add_left_cancel_iff, ↓s_load, m_load, ↓m_load1, m_load1, ↓m_st, m_stE, m_storeI, w_zero, w_succ, ↓s_alloc, ↓x_idxA, ↓x_idxS, x_idxAE, x_idxSE, x_addrE, x_idx, x_lenS, ↓s_len, ↓x_buildS, x_buildE, ↓x_P0, ↓x_P1, x_fill0, x_filli, x_fills, x_fillb, c_int, List.length_cons, List.length_nil, List.cons_append, List.drop_succ_cons, List.drop_zero, List.drop_nil, List.nil_append, Int.reduceAdd, Int.reduceToNat, Int.reduceLT, Int.reduceLE, Nat.reduceAdd, Nat.reduceMul, Nat.reduceLeDiff, Int.reduceEq, Int.reduceSub, Int.cast_ofNat_Int, s_resc, s_consR, m_load4, m_store4, s_res0, ↓s_skip, ↓s_ops, ↓s_dops, ↓s_seq, ↓s_cond, ↓s_block, ↓s_exit, ↓s_ret, ↓s_scope, ↓s_nil, ↓s_op, ↓s_opg, ↓s_wanted', ↓s_wantV, s_wantV, s_wantV0, beq_true, beq_false, ↓s_bindS, s_bindS, ↓s_bindE, s_bindE, s_bindE_ret, s_bindE_exit, s_bindE_iteN, s_norm, ↓s_condV, s_condV, s_block_ret, s_block_normal, s_block_exit, s_block_iteN, ↓s_getp, ↓s_getp0, ↓s_get, s_get0, ↓s_con, ↓s_fn, ↓s_os0, ↓s_os1, ↓s_list0, ↓s_list1, ↓s_mov, ↓s_pick, ↓s_pickE, s_pickE, ↓s_bin, ↓s_un, ↓s_minmax, ↓s_call, ↓s_callv, ↓s_callV, ↓s_ext, s_same, b_eql, b_neq, b_lss, b_leq, b_gtr, b_geq, b_add, b_sub, b_mul, b_eqlb, b_neqb, b_fnil, b_fnil', b_fnil2, b_fnil2', u_neg, u_not, m_two, s_end, s_end', s_end_iteN, s_res0, s_res1, s_tup1, s_tup2, ↓iteN_true, ↓iteN_false, iteN_true, iteN_false, Nat.zero_add, List.nil_append, List.append_nil, Nat.reduceEqDiff, reduceIte, decide_true, decide_false, Bool.not_true, Bool.not_false, List.getElem?_cons_zero, List.getElem?_cons_succ, Bool.false_eq_true, if_true, if_false, beq_self_eq_true]
    exact ⟨_, rfl, K.put _ (Nat.le_refl _)⟩
  obtain ⟨R, eR⟩ : ∃ R, R_sha_Sum_schedule_0 = R := ⟨_, rfl⟩
  obtain ⟨L, eL⟩ : ∃ R, L_sha_Sum_schedule_0 = R := ⟨_, rfl⟩
  have z64 : List.replicate 64 (V.int .u32 0) = [.int .u32 0, .int .u32 0, .int .u32 0, .int .u32 0, .int .u32 0, .int .u32 0, .int .u32 0, .int .u32 0, .int .u32 0, .int .u32 0, .int .u32 0, .int .u32 0, .int .u32 0, .int .u32 0, .int .u32 0, .int .u32 0, .int .u32 0, .int .u32 0, .int .u32 0, .int .u32 0, .int .u32 0, .int .u32 0, .int .u32 0, .int .u32 0, .int .u32 0, .int .u32 0, .int .u32 0, .int .u32 0, .int .u32 0, .int .u32 0, .int .u32 0, .int .u32 0, .int .u32 0, .int .u32 0, .int .u32 0, .int .u32 0, .int .u32 0, .int .u32 0, .int .u32 0, .int .u32 0, .int .u32 0, .int .u32 0, .int .u32 0, .int .u32 0, .int .u32 0, .int .u32 0, .int .u32 0, .int .u32 0, .int .u32 0, .int .u32 0, .int .u32 0, .int .u32 0, .int .u32 0, .int .u32 0, .int .u32 0, .int .u32 0, .int .u32 0, .int .u32 0, .int .u32 0, .int .u32 0, .int .u32 0, .int .u32 0, .int .u32 0, .int .u32 0] := rfl
  have w0 : wCells blk 0 = List.replicate 64 (V.int .u32 0) := rfl
  rw [eR, eL] at fin
  rw [eR, eL, ← z64]
  generalize List.replicate 64 (V.int .u32 0) = z at *
  simp (config := {maxSteps := 2000000}) (disch := first | omega | (simp only [List.length_cons, List.length_nil, List.length_append, List.length_drop]; omega)) only [↓b_xor32, ↓b_and32, ↓b_or32, ↓u_not32, b_xor32, b_and32, b_or32, u_not32, w32ad, ↓x_conv, x_convV, ↓x_fieldAddr, x_fieldV, ↓s_nilchk, x_nilchk, Nat.zero_add, Nat.add_zero, Nat.mul_one, ↓l_loop, ↓l_succ, ↓l_normal, l_normal, l_exit, l_ret, l_iteN, ↓h_put_get, ↓h_new_get, ↓h_del_get, h_next_put, h_next_new, h_next_del, Nat.add_assoc, Nat.add_eq_left, Nat.left_eq_add, Nat.add_left_cancel_iff, ↓s_load, m_load, ↓m_load1, m_load1, ↓m_st, m_stE, m_storeI, w_zero, w_succ, ↓s_alloc, ↓x_idxA, ↓x_idxS, x_idxAE, x_idxSE, x_addrE, x_idx, x_lenS, ↓s_len, ↓x_buildS, x_buildE, ↓x_P0, ↓x_P1, x_fill0, x_filli, x_fills, x_fillb, c_int, List.length_cons, List.length_nil, List.cons_append, List.drop_succ_cons, List.drop_zero, List.drop_nil, List.nil_append, Int.reduceAdd, Int.reduceToNat, Int.reduceLT, Int.reduceLE, Nat.reduceAdd, Nat.reduceMul, Nat.reduceLeDiff, Int.reduceEq, Int.reduceSub, Int.cast_ofNat_Int, s_resc, s_consR, m_load4, m_store4, s_res0, ↓s_skip, ↓s_ops, ↓s_dops, ↓s_seq, ↓s_cond, ↓s_block, ↓s_exit, ↓s_ret, ↓s_scope, ↓s_nil, ↓s_op, ↓s_opg, ↓s_wanted', ↓s_wantV, s_wantV, s_wantV0, beq_true, beq_false, ↓s_bindS, s_bindS, ↓s_bindE, s_bindE, s_bindE_ret, s_bindE_exit, s_bindE_iteN, s_norm, ↓s_condV, s_condV, s_block_ret, s_block_normal, s_block_exit, s_block_iteN, ↓s_getp, ↓s_getp0, ↓s_get, s_get0, ↓s_con, ↓s_fn, ↓s_os0, ↓s_os1, ↓s_list0, ↓s_list1, ↓s_mov, ↓s_pick, ↓s_pickE, s_pickE, ↓s_bin, ↓s_un, ↓s_minmax, ↓s_call, ↓s_callv, ↓s_callV, ↓s_ext, s_same, b_eql, b_neq, b_lss, b_leq, b_gtr, b_geq, b_add, b_sub, b_mul, b_eqlb, b_neqb, b_fnil, b_fnil', b_fnil2, b_fnil2', u_neg, u_not, m_two, s_end, s_end', s_end_iteN, s_res0, s_res1, s_tup1, s_tup2, ↓iteN_true, ↓iteN_false, iteN_true, iteN_false, Nat.zero_add, List.nil_append, List.append_nil, Nat.reduceEqDiff, reduceIte, decide_true, decide_false, Bool.not_true, Bool.not_false, List.getElem?_cons_zero, List.getElem?_cons_succ, Bool.false_eq_true, if_true, if_false, beq_self_eq_true]
  exact fin _ ⟨by omega, (by (simp only [s_getp, s_getp0, Nat.reduceEqDiff, decide_false, decide_true, iteN_false, iteN_true, hp]; try rfl)), (by (simp only [s_getp, s_getp0, Nat.reduceEqDiff, decide_false, decide_true, iteN_false, iteN_true, hp]; try rfl)), (by (simp only [s_getp, s_getp0, Nat.reduceEqDiff, decide_false, decide_true, iteN_false, iteN_true, hp]; try rfl)), (by (simp only [s_getp, s_getp0, Nat.reduceEqDiff, decide_false, decide_true, iteN_false, iteN_true, hp]; try rfl)), by rw [w0]; exact h_new_same' _ _ rfl, Eqx.refl _ _⟩
end Go.Eng
namespace Go.Eng
open Go
variable {E : Nat → Option Fn} {X : Orc}
set_option linter.unusedSimpArgs false
set_option linter.unusedVariables false
structure S8 where
  a : Nat
  b : Nat
  c : Nat
  d : Nat
  e : Nat
  f : Nat
  g : Nat
  h : Nat
def rnd (s : S8) (k w : Nat) : S8 :=
  ⟨ad (ad (ad (ad (ad s.h (trn s.e 6 11 25)) (xr (an s.e s.f) (an (nt s.e) s.g))) k) w) (ad (trn s.a 2 13 22) (xr (xr (an s.a s.b) (an s.a s.c)) (an s.b s.c))), s.a, s.b, s.c,
   ad s.d (ad (ad (ad (ad s.h (trn s.e 6 11 25)) (xr (an s.e s.f) (an (nt s.e) s.g))) k) w), s.e, s.f, s.g⟩
def rnds (ws : List Nat) (s : S8) : Nat → S8
  | 0 => s
  | i + 1 => rnd (rnds ws s i) (cubes.getD i 0) (ws.getD i 0)
def updN (st vs : List Nat) : Nat → List Nat
  | 0 => st
  | i + 1 => (updN st vs i).set i (ad ((updN st vs i).getD i 0) (vs.getD i 0))
theorem updN_len (st vs : List Nat) (i : Nat) : (updN st vs i).length = st.length := by
  induction i with
  | zero => rfl
  | succ i ih => simp [updN, ih]
def s8of (st : List Nat) : S8 := ⟨st.getD 0 0, st.getD 1 0, st.getD 2 0, st.getD 3 0, st.getD 4 0, st.getD 5 0, st.getD 6 0, st.getD 7 0⟩
def s8l (s : S8) : List Nat := [s.a, s.b, s.c, s.d, s.e, s.f, s.g, s.h]
def mixV (st blk : List Nat) : List Nat := updN st (s8l (rnds (wsN blk 64) (s8of st) 64)) 8
theorem mixV_len (st blk : List Nat) : (mixV st blk).length = st.length := updN_len _ _ _
theorem writeN_set (vs : List V) (i : Nat) (v : V) (h : i < vs.length) : writeN vs i [v] = vs.set i v := by
  rw [writeN_eq _ _ _ (by omega), List.set_eq_take_append_cons_drop, if_pos h]
  simp
theorem ofI_set (k : IntKind) (l : List Nat) (i n : Nat) : (ofI k l).set i (.int k (n : Int)) = ofI k (l.set i n) := by
  induction l generalizing i with
  | nil => simp [ofI]
  | cons a r ih => cases i with
    | zero => rfl
    | succ i => simp only [ofI, List.set_cons_succ, ih]
theorem sumC_set (st blk : List Nat) (len i n : Nat) (h1 : st.length = 8) (h2 : blk.length = 64) (hi : i < 8) : writeN (sumC st blk len) i [.int .u32 (n : Int)] = sumC (st.set i n) blk len := by
  rw [writeN_set _ _ _ (by rw [sumC_len _ _ _ h1 h2]; omega)]
  unfold sumC
  rw [List.set_append_left _ _ (by rw [ofI_len]; omega), ofI_set]
theorem vbeq_int (k : IntKind) (n : Int) : V.beq (.int k n) (.int k n) = true := by
  unfold V.beq; rw [kindEq_self, ieq_dec]; simp
structure MI (p qc qs r : Nat) (ws : List Nat) (s : S8) (h0 : H) (i : Nat) (T : Tr V) (h : H) : Prop where
  i64 : i ≤ 64
  hh : h = h0
  t0 : evO T (.t 0) = .ptr (some (p, 0))
  t2 : evO T (.t 2) = .ptr (some (qc, 0))
  t3 : evO T (.t 3) = .ptr (some (qs, 0))
  t4 : evO T (.t 4) = .int .u32 ((rnds ws s i).a : Nat)
  t5 : evO T (.t 5) = .int .u32 ((rnds ws s i).b : Nat)
  t6 : evO T (.t 6) = .int .u32 ((rnds ws s i).c : Nat)
  t7 : evO T (.t 7) = .int .u32 ((rnds ws s i).d : Nat)
  t8 : evO T (.t 8) = .int .u32 ((rnds ws s i).e : Nat)
  t9 : evO T (.t 9) = .int .u32 ((rnds ws s i).f : Nat)
  t10 : evO T (.t 10) = .int .u32 ((rnds ws s i).g : Nat)
  t11 : evO T (.t 11) = .int .u32 ((rnds ws s i).h : Nat)
  t62 : evO T (.t 62) = .int .i64 (i : Int)
theorem mix_step (e : EnSha E) (x : NoSha X) (N n p qc qs r : Nat) (ws : List Nat) (hw : ws.length = 64) (s : S8) (h0 : H) (gc : h0.get qc = some (.cells (ofI .u32 cubes) .rw)) (gs : h0.get qs = some (.cells (ofI .u32 ws) .rw)) :
    ∀ i T h, i < 64 → MI p qc qs r ws s h0 i T h → ∃ T' h', evC (callX E X (N + 2)) 140 n none L_sha_Sum_mix_0 ⟨T, [], h⟩ = some (.normal, ⟨T', [], h'⟩) ∧ MI p qc qs r ws s h0 (i + 1) T' h' := by
  intro i T h hi ⟨_, hh, t0, t2, t3, t4, t5, t6, t7, t8, t9, t10, t11, t62⟩
  subst hh
  have c0 : decide ((i : Int) < 64) = true := decide_eq_true (by omega)
  have wi : wr .i64 ((i : Int) + 1) = ((i + 1 : Nat) : Int) := by rw [wr_i64 (by omega)]; omega
  have ix : idx (i : Int) 64 = some i := idxn hi
  have kg : (ofI .u32 cubes)[i]? = some (.int .u32 (cubes.getD i 0 : Nat)) := ofI_get _ _ _ (by rw [show cubes.length = 64 from rfl]; exact hi)
  have wg : (ofI .u32 ws)[i]? = some (.int .u32 (ws.getD i 0 : Nat)) := ofI_get _ _ _ (by omega)
  have en : rnds ws s (i + 1) = rnd (rnds ws s i) (cubes.getD i 0) (ws.getD i 0) := rfl
  have tA := fun a h => (turnedL e x N a h).1
  have tB := fun a h => (turnedL e x N a h).2
  generalize ofI .u32 cubes = cC at *
  generalize ofI .u32 ws = cW at *
  generalize cubes.getD i 0 = kv at *
  generalize ws.getD i 0 = wv at *
  obtain ⟨s', es⟩ : ∃ s', rnds ws s i = s' := ⟨_, rfl⟩
  rw [es] at t4 t5 t6 t7 t8 t9 t10 t11 en
  obtain ⟨a, b, c, d, f, g, u, v⟩ := s'
  simp only at t4 t5 t6 t7 t8 t9 t10 t11
  refine ⟨_, _, by
    simp (config := {maxSteps := 2000000}) (disch := first | omega | (simp only [List.length_cons, List.length_nil, List.length_append, List.length_drop]; omega)) only [L_sha_Sum_mix_0, t0, t2, t3, t4, t5, t6, t7, t8, t9, t10, t11, t62, gc, gs, kg, wg, c0, wi, ix, tA, tB, vbeq_int, ↓b_xor32, ↓b_and32, ↓b_or32, ↓u_not32, b_xor32, b_and32, b_or32, u_not32, w32ad, ↓x_conv, x_convV, ↓x_fieldAddr, x_fieldV, ↓s_nilchk, x_nilchk, Nat.zero_add, Nat.add_zero, Nat.mul_one, ↓s_evD, ↓s_dnil, ↓s_dL, ↓s_dLg, ↓s_dR, ↓s_dRg, ↓s_dRj, ↓s_dRjg, ↓s_dB, ↓s_dBg, ↓s_dAlloc, ↓s_bindD, s_bindD, s_finD, s_finDx, s_addP0, s_addP1, s_addB, s_lookP, ↓s_bump0, ↓s_bump_get, s_bump_next, s_ok0, ↓s_ok1, s_okR0, ↓s_okR1, ↓s_okE, s_okE, s_okE1, s_nth0, s_nthS, Nat.add_zero, Bool.and_self, Bool.and_true, Bool.true_and, ↓l_loop, ↓l_succ, ↓l_normal, l_normal, l_exit, l_ret, l_iteN, ↓h_put_get, ↓h_new_get, ↓h_del_get, h_next_put, h_next_new, h_next_del, Nat.add_assoc, Nat.add_eq_left, Nat.left_eq_add, Nat.add_left_cancel_iff, ↓s_load, m_load, ↓m_load1, m_load1, ↓m_st, m_stE, m_storeI, w_zero, w_succ, ↓s_alloc, ↓x_idxA, ↓x_idxS, x_idxAE, x_idxSE, x_addrE, x_idx, x_lenS, ↓s_len, ↓x_buildS, x_buildE, ↓x_P0, ↓x_P1, x_fill0, x_filli, x_fills, x_fillb, c_int, List.length_cons, List.length_nil, List.cons_append, List.drop_succ_cons, List.drop_zero, List.drop_nil, List.nil_append, Int.reduceAdd, Int.reduceToNat, Int.reduceLT, Int.reduceLE, Nat.reduceAdd, Nat.reduceMul, Nat.reduceLeDiff, Int.reduceEq, Int.reduceSub, Int.cast_ofNat_Int, s_resc, s_consR, m_load4, m_store4, s_res0, ↓s_skip, ↓s_ops, ↓s_dops, ↓s_seq, ↓s_cond, ↓s_block, ↓s_exit, ↓s_ret, ↓s_scope, ↓s_nil, ↓s_op, ↓s_opg, ↓s_wanted', ↓s_wantV, s_wantV, s_wantV0, beq_true, beq_false, ↓s_bindS, s_bindS, ↓s_bindE, s_bindE, s_bindE_ret, s_bindE_exit, s_bindE_iteN, s_norm, ↓s_condV, s_condV, s_block_ret, s_block_normal, s_block_exit, s_block_iteN, ↓s_getp, ↓s_getp0, ↓s_get, s_get0, ↓s_con, ↓s_fn, ↓s_os0, ↓s_os1, ↓s_list0, ↓s_list1, ↓s_mov, ↓s_pick, ↓s_pickE, s_pickE, ↓s_bin, ↓s_un, ↓s_minmax, ↓s_call, ↓s_callv, ↓s_callV, ↓s_ext, s_same, b_eql, b_neq, b_lss, b_leq, b_gtr, b_geq, b_add, b_sub, b_mul, b_eqlb, b_neqb, b_fnil, b_fnil', b_fnil2, b_fnil2', u_neg, u_not, m_two, s_end, s_end', s_end_iteN, s_res0, s_res1, s_tup1, s_tup2, ↓iteN_true, ↓iteN_false, iteN_true, iteN_false, Nat.zero_add, List.nil_append, List.append_nil, Nat.reduceEqDiff, reduceIte, decide_true, decide_false, Bool.not_true, Bool.not_false, List.getElem?_cons_zero, List.getElem?_cons_succ, Bool.false_eq_true, if_true, if_false, beq_self_eq_true]
    exact rfl, ⟨by omega, rfl, (by (simp only [s_getp, s_getp0, Nat.reduceEqDiff, decide_false, decide_true, iteN_false, iteN_true, t0]; try rfl)), (by (simp only [s_getp, s_getp0, Nat.reduceEqDiff, decide_false, decide_true, iteN_false, iteN_true, t2]; try rfl)), (by (simp only [s_getp, s_getp0, Nat.reduceEqDiff, decide_false, decide_true, iteN_false, iteN_true, t3]; try rfl)), ?_, ?_, ?_, ?_, ?_, ?_, ?_, ?_, (by (simp only [s_getp, s_getp0, Nat.reduceEqDiff, decide_false, decide_true, iteN_false, iteN_true, t0]; try rfl))⟩⟩
  all_goals (rw [en]; simp only [rnd]; (simp only [s_getp, s_getp0, Nat.reduceEqDiff, decide_false, decide_true, iteN_false, iteN_true, t4]; try rfl))
theorem mix_loop (e : EnSha E) (x : NoSha X) (N n p qc qs r : Nat) (hn : 64 < n) (ws : List Nat) (hw : ws.length = 64) (s : S8) (h0 : H) (gc : h0.get qc = some (.cells (ofI .u32 cubes) .rw)) (gs : h0.get qs = some (.cells (ofI .u32 ws) .rw)) (T : Tr V) (h : H) (I : MI p qc qs r ws s h0 0 T h) :
    ∃ T' h', loopN (evC (callX E X (N + 2)) 140 n none L_sha_Sum_mix_0) n ⟨T, [], h⟩ = some (.exit 0, ⟨T', [], h'⟩) ∧ MI p qc qs r ws s h0 64 T' h' :=
  loop_go (MI p qc qs r ws s h0) 64 (.exit 0) (by intro h; cases h) _ (mix_step e x N n p qc qs r ws hw s h0 gc gs) (fun T h I => by
    obtain ⟨a, hh, t0, t2, t3, t4, t5, t6, t7, t8, t9, t10, t11, t62⟩ := I
    have c0 : decide (((64 : Nat) : Int) < 64) = false := rfl
    refine ⟨_, _, by
      simp (config := {maxSteps := 2000000}) (disch := first | omega | (simp only [List.length_cons, List.length_nil, List.length_append, List.length_drop]; omega)) only [L_sha_Sum_mix_0, t62, c0, ↓b_xor32, ↓b_and32, ↓b_or32, ↓u_not32, b_xor32, b_and32, b_or32, u_not32, w32ad, ↓x_conv, x_convV, ↓x_fieldAddr, x_fieldV, ↓s_nilchk, x_nilchk, Nat.zero_add, Nat.add_zero, Nat.mul_one, ↓l_loop, ↓l_succ, ↓l_normal, l_normal, l_exit, l_ret, l_iteN, ↓h_put_get, ↓h_new_get, ↓h_del_get, h_next_put, h_next_new, h_next_del, Nat.add_assoc, Nat.add_eq_left, Nat.left_eq_add, Nat.add_left_cancel_iff, ↓s_load, m_load, ↓m_load1, m_load1, ↓m_st, m_stE, m_storeI, w_zero, w_succ, ↓s_alloc, ↓x_idxA, ↓x_idxS, x_idxAE, x_idxSE, x_addrE, x_idx, x_lenS, ↓s_len, ↓x_buildS, x_buildE, ↓x_P0, ↓x_P1, x_fill0, x_filli, x_fills, x_fillb, c_int, List.length_cons, List.length_nil, List.cons_append, List.drop_succ_cons, List.drop_zero, List.drop_nil, List.nil_append, Int.reduceAdd, Int.reduceToNat, Int.reduceLT, Int.reduceLE, Nat.reduceAdd, Nat.reduceMul, Nat.reduceLeDiff, Int.reduceEq, Int.reduceSub, Int.cast_ofNat_Int, s_resc, s_consR, m_load4, m_store4, s_res0, ↓s_skip, ↓s_ops, ↓s_dops, ↓s_seq, ↓s_cond, ↓s_block, ↓s_exit, ↓s_ret, ↓s_scope, ↓s_nil, ↓s_op, ↓s_opg, ↓s_wanted', ↓s_wantV, s_wantV, s_wantV0, beq_true, beq_false, ↓s_bindS, s_bindS, ↓s_bindE, s_bindE, s_bindE_ret, s_bindE_exit, s_bindE_iteN, s_norm, ↓s_condV, s_condV, s_block_ret, s_block_normal, s_block_exit, s_block_iteN, ↓s_getp, ↓s_getp0, ↓s_get, s_get0, ↓s_con, ↓s_fn, ↓s_os0, ↓s_os1, ↓s_list0, ↓s_list1, ↓s_mov, ↓s_pick, ↓s_pickE, s_pickE, ↓s_bin, ↓s_un, ↓s_minmax, ↓s_call, ↓s_callv, ↓s_callV, ↓s_ext, s_same, b_eql, b_neq, b_lss, b_leq, b_gtr, b_geq, b_add, b_sub, b_mul, b_eqlb, b_neqb, b_fnil, b_fnil', b_fnil2, b_fnil2', u_neg, u_not, m_two, s_end, s_end', s_end_iteN, s_res0, s_res1, s_tup1, s_tup2, ↓iteN_true, ↓iteN_false, iteN_true, iteN_false, Nat.zero_add, List.nil_append, List.append_nil, Nat.reduceEqDiff, reduceIte, decide_true, decide_false, Bool.not_true, Bool.not_false, List.getElem?_cons_zero, List.getElem?_cons_succ, Bool.false_eq_true, if_true, if_false, beq_self_eq_true]
      exact rfl, ⟨a, hh, (by (simp only [s_getp, s_getp0, Nat.reduceEqDiff, decide_false, decide_true, iteN_false, iteN_true, t0]; try rfl)), (by (simp only [s_getp, s_getp0, Nat.reduceEqDiff, decide_false, decide_true, iteN_false, iteN_true, t2]; try rfl)), (by (simp only [s_getp, s_getp0, Nat.reduceEqDiff, decide_false, decide_true, iteN_false, iteN_true, t3]; try rfl)), (by (simp only [s_getp, s_getp0, Nat.reduceEqDiff, decide_false, decide_true, iteN_false, iteN_true, t4]; try rfl)), (by (simp only [s_getp, s_getp0, Nat.reduceEqDiff, decide_false, decide_true, iteN_false, iteN_true, t5]; try rfl)), (by (simp only [s_getp, s_getp0, Nat.reduceEqDiff, decide_false, decide_true, iteN_false, iteN_true, t6]; try rfl)), (by (simp only [s_getp, s_getp0, Nat.reduceEqDiff, decide_false, decide_true, iteN_false, iteN_true, t7]; try rfl)), (by (simp only [s_getp, s_getp0, Nat.reduceEqDiff, decide_false, decide_true, iteN_false, iteN_true, t8]; try rfl)), (by (simp only [s_getp, s_getp0, Nat.reduceEqDiff, decide_false, decide_true, iteN_false, iteN_true, t9]; try rfl)), (by (simp only [s_getp, s_getp0, Nat.reduceEqDiff, decide_false, decide_true, iteN_false, iteN_true, t10]; try rfl)), (by (simp only [s_getp, s_getp0, Nat.reduceEqDiff, decide_false, decide_true, iteN_false, iteN_true, t11]; try rfl)), (by (simp only [s_getp, s_getp0, Nat.reduceEqDiff, decide_false, decide_true, iteN_false, iteN_true, t62]; try rfl))⟩⟩) 64 0 rfl n hn T h I
structure MJ (p : Nat) (vs st blk : List Nat) (len : Nat) (h0 : H) (i : Nat) (T : Tr V) (h : H) : Prop where
  i8 : i ≤ 8
  t0 : evO T (.t 0) = .ptr (some (p, 0))
  t123 : evO T (.t 123) = .agg (ofI .u32 vs)
  t124 : evO T (.t 124) = .int .i64 (i : Int)
  gp : h.get p = some (.cells (sumC (updN st vs i) blk len) .rw)
  eq : Eqx p h0 h
theorem x_idxArr (Q : Orc) (T : Tr V) (h : H) (n esz : Nat) (ag : Bool) (x i : O) : Eng.step (.idxArr n esz ag x i) Q T h = (match evO T x, evO T i with
  | .agg cs, .int _ j => (match idx j n with
    | some j => same h (partV cs (j * esz) (agSz ag esz))
    | none => none)
  | _, _ => none) := _root_.id rfl
theorem mix_step2 (Q : Orc) (n p : Nat) (vs st blk : List Nat) (len : Nat) (hv : vs.length = 8) (h1 : st.length = 8) (h2 : blk.length = 64) (h0 : H) :
    ∀ i T h, i < 8 → MJ p vs st blk len h0 i T h → ∃ T' h', evC Q 140 n none L_sha_Sum_mix_1 ⟨T, [], h⟩ = some (.normal, ⟨T', [], h'⟩) ∧ MJ p vs st blk len h0 (i + 1) T' h' := by
  intro i T h hi ⟨_, t0, t123, t124, gp, eq⟩
  have c0 : decide ((i : Int) < 8) = true := decide_eq_true (by omega)
  have wi : wr .i64 ((i : Int) + 1) = ((i + 1 : Nat) : Int) := by rw [wr_i64 (by omega)]; omega
  have ix : idx (i : Int) 8 = some i := idxn hi
  have vg : partV (ofI .u32 vs) i (agSz false 1) = some (.int .u32 (vs.getD i 0 : Nat)) := ofI_get _ _ _ (by omega)
  have sg := sumC_s (updN st vs i) blk len i (by rw [updN_len, h1]) hi
  have su := sumC_set (updN st vs i) blk len i (ad ((updN st vs i).getD i 0) (vs.getD i 0)) (by rw [updN_len, h1]) h2 hi
  have sl := sumC_len (updN st vs i) blk len (by rw [updN_len, h1]) h2
  have en : updN st vs (i + 1) = (updN st vs i).set i (ad ((updN st vs i).getD i 0) (vs.getD i 0)) := rfl
  rw [← en] at su
  generalize sumC (updN st vs i) blk len = sc at *
  obtain ⟨cv, ecv⟩ : ∃ cv, ofI .u32 vs = cv := ⟨_, rfl⟩
  rw [ecv] at t123 vg
  have ste : ∀ (h : H) (v : V), storeE (some (.cells sc .rw)) h p i [v] = some (h.put p (.cells (writeN sc i [v]) .rw)) := fun h v => m_storeE _ _ _ _ _ (by rw [sl]; simp only [List.length_cons, List.length_nil]; omega)
  refine ⟨_, _, by
    simp (config := {maxSteps := 2000000}) (disch := first | omega | (simp only [List.length_cons, List.length_nil, List.length_append, List.length_drop]; omega)) only [L_sha_Sum_mix_1, t0, t123, t124, gp, vg, sg, c0, wi, ix, ste, x_idxArr, ↓b_xor32, ↓b_and32, ↓b_or32, ↓u_not32, b_xor32, b_and32, b_or32, u_not32, w32ad, ↓x_conv, x_convV, ↓x_fieldAddr, x_fieldV, ↓s_nilchk, x_nilchk, Nat.zero_add, Nat.add_zero, Nat.mul_one, ↓s_evD, ↓s_dnil, ↓s_dL, ↓s_dLg, ↓s_dR, ↓s_dRg, ↓s_dRj, ↓s_dRjg, ↓s_dB, ↓s_dBg, ↓s_dAlloc, ↓s_bindD, s_bindD, s_finD, s_finDx, s_addP0, s_addP1, s_addB, s_lookP, ↓s_bump0, ↓s_bump_get, s_bump_next, s_ok0, ↓s_ok1, s_okR0, ↓s_okR1, ↓s_okE, s_okE, s_okE1, s_nth0, s_nthS, Nat.add_zero, Bool.and_self, Bool.and_true, Bool.true_and, ↓l_loop, ↓l_succ, ↓l_normal, l_normal, l_exit, l_ret, l_iteN, ↓h_put_get, ↓h_new_get, ↓h_del_get, h_next_put, h_next_new, h_next_del, Nat.add_assoc, Nat.add_eq_left, Nat.left_eq_add, Nat.add_left_cancel_iff, ↓s_load, m_load, ↓m_load1, m_load1, ↓m_st, m_stE, m_storeI, w_zero, w_succ, ↓s_alloc, ↓x_idxA, ↓x_idxS, x_idxAE, x_idxSE, x_addrE, x_idx, x_lenS, ↓s_len, ↓x_buildS, x_buildE, ↓x_P0, ↓x_P1, x_fill0, x_filli, x_fills, x_fillb, c_int, List.length_cons, List.length_nil, List.cons_append, List.drop_succ_cons, List.drop_zero, List.drop_nil, List.nil_append, Int.reduceAdd, Int.reduceToNat, Int.reduceLT, Int.reduceLE, Nat.reduceAdd, Nat.reduceMul, Nat.reduceLeDiff, Int.reduceEq, Int.reduceSub, Int.cast_ofNat_Int, s_resc, s_consR, m_load4, m_store4, s_res0, ↓s_skip, ↓s_ops, ↓s_dops, ↓s_seq, ↓s_cond, ↓s_block, ↓s_exit, ↓s_ret, ↓s_scope, ↓s_nil, ↓s_op, ↓s_opg, ↓s_wanted', ↓s_wantV, s_wantV, s_wantV0, beq_true, beq_false, ↓s_bindS, s_bindS, ↓s_bindE, s_bindE, s_bindE_ret, s_bindE_exit, s_bindE_iteN, s_norm, ↓s_condV, s_condV, s_block_ret, s_block_normal, s_block_exit, s_block_iteN, ↓s_getp, ↓s_getp0, ↓s_get, s_get0, ↓s_con, ↓s_fn, ↓s_os0, ↓s_os1, ↓s_list0, ↓s_list1, ↓s_mov, ↓s_pick, ↓s_pickE, s_pickE, ↓s_bin, ↓s_un, ↓s_minmax, ↓s_call, ↓s_callv, ↓s_callV, ↓s_ext, s_same, b_eql, b_neq, b_lss, b_leq, b_gtr, b_geq, b_add, b_sub, b_mul, b_eqlb, b_neqb, b_fnil, b_fnil', b_fnil2, b_fnil2', u_neg, u_not, m_two, s_end, s_end', s_end_iteN, s_res0, s_res1, s_tup1, s_tup2, ↓iteN_true, ↓iteN_false, iteN_true, iteN_false, Nat.zero_add, List.nil_append, List.append_nil, Nat.reduceEqDiff, reduceIte, decide_true, decide_false, Bool.not_true, Bool.not_false, List.getElem?_cons_zero, List.getElem?_cons_succ, Bool.false_eq_true, if_true, if_false, beq_self_eq_true]
    exact rfl, ⟨by omega, (by (simp only [s_getp, s_getp0, Nat.reduceEqDiff, decide_false, decide_true, iteN_false, iteN_true, t0]; try rfl)), by rw [ecv]; (simp only [s_getp, s_getp0, Nat.reduceEqDiff, decide_false, decide_true, iteN_false, iteN_true, t123]; try rfl), (by (simp only [s_getp, s_getp0, Nat.reduceEqDiff, decide_false, decide_true, iteN_false, iteN_true, t0]; try rfl)), by rw [h_put_same, su], eq.put _⟩⟩
theorem mix_loop2 (Q : Orc) (n p : Nat) (hn : 8 < n) (vs st blk : List Nat) (len : Nat) (hv : vs.length = 8) (h1 : st.length = 8) (h2 : blk.length = 64) (h0 : H) (T : Tr V) (h : H) (I : MJ p vs st blk len h0 0 T h) :
    ∃ T' h', loopN (evC Q 140 n none L_sha_Sum_mix_1) n ⟨T, [], h⟩ = some (.exit 2, ⟨T', [], h'⟩) ∧ MJ p vs st blk len h0 8 T' h' :=
  loop_go (MJ p vs st blk len h0) 8 (.exit 2) (by intro h; cases h) _ (mix_step2 Q n p vs st blk len hv h1 h2 h0) (fun T h I => by
    obtain ⟨a, t0, t123, t124, gp, eq⟩ := I
    have c0 : decide (((8 : Nat) : Int) < 8) = false := rfl
    refine ⟨_, _, by
      simp (config := {maxSteps := 2000000}) (disch := first | omega | (simp only [List.length_cons, List.length_nil, List.length_append, List.length_drop]; omega)) only [L_sha_Sum_mix_1, t124, c0, ↓b_xor32, ↓b_and32, ↓b_or32, ↓u_not32, b_xor32, b_and32, b_or32, u_not32, w32ad, ↓x_conv, x_convV, ↓x_fieldAddr, x_fieldV, ↓s_nilchk, x_nilchk, Nat.zero_add, Nat.add_zero, Nat.mul_one, ↓l_loop, ↓l_succ, ↓l_normal, l_normal, l_exit, l_ret, l_iteN, ↓h_put_get, ↓h_new_get, ↓h_del_get, h_next_put, h_next_new, h_next_del, Nat.add_assoc, Nat.add_eq_left, Nat.left_eq_add, Nat.add_left_cancel_iff, ↓s_load, m_load, ↓m_load1, m_load1, ↓m_st, m_stE, m_storeI, w_zero, w_succ, ↓s_alloc, ↓x_idxA, ↓x_idxS, x_idxAE, x_idxSE, x_addrE, x_idx, x_lenS, ↓s_len, ↓x_buildS, x_buildE, ↓x_P0, ↓x_P1, x_fill0, x_filli, x_fills, x_fillb, c_int, List.length_cons, List.length_nil, List.cons_append, List.drop_succ_cons, List.drop_zero, List.drop_nil, List.nil_append, Int.reduceAdd, Int.reduceToNat, Int.reduceLT, Int.reduceLE, Nat.reduceAdd, Nat.reduceMul, Nat.reduceLeDiff, Int.reduceEq, Int.reduceSub, Int.cast_ofNat_Int, s_resc, s_consR, m_load4, m_store4, s_res0, ↓s_skip, ↓s_ops, ↓s_dops, ↓s_seq, ↓s_cond, ↓s_block, ↓s_exit, ↓s_ret, ↓s_scope, ↓s_nil, ↓s_op, ↓s_opg, ↓s_wanted', ↓s_wantV, s_wantV, s_wantV0, beq_true, beq_false, ↓s_bindS, s_bindS, ↓s_bindE, s_bindE, s_bindE_ret, s_bindE_exit, s_bindE_iteN, s_norm, ↓s_condV, s_condV, s_block_ret, s_block_normal, s_block_exit, s_block_iteN, ↓s_getp, ↓s_getp0, ↓s_get, s_get0, ↓s_con, ↓s_fn, ↓s_os0, ↓s_os1, ↓s_list0, ↓s_list1, ↓s_mov, ↓s_pick, ↓s_pickE, s_pickE, ↓s_bin, ↓s_un, ↓s_minmax, ↓s_call, ↓s_callv, ↓s_callV, ↓s_ext, s_same, b_eql, b_neq, b_lss, b_leq, b_gtr, b_geq, b_add, b_sub, b_mul, b_eqlb, b_neqb, b_fnil, b_fnil', b_fnil2, b_fnil2', u_neg, u_not, m_two, s_end, s_end', s_end_iteN, s_res0, s_res1, s_tup1, s_tup2, ↓iteN_true, ↓iteN_false, iteN_true, iteN_false, Nat.zero_add, List.nil_append, List.append_nil, Nat.reduceEqDiff, reduceIte, decide_true, decide_false, Bool.not_true, Bool.not_false, List.getElem?_cons_zero, List.getElem?_cons_succ, Bool.false_eq_true, if_true, if_false, beq_self_eq_true]
      exact rfl, ⟨a, (by (simp only [s_getp, s_getp0, Nat.reduceEqDiff, decide_false, decide_true, iteN_false, iteN_true, t0]; try rfl)), (by (simp only [s_getp, s_getp0, Nat.reduceEqDiff, decide_false, decide_true, iteN_false, iteN_true, t123]; try rfl)), (by (simp only [s_getp, s_getp0, Nat.reduceEqDiff, decide_false, decide_true, iteN_false, iteN_true, t124]; try rfl)), gp, eq⟩⟩) 8 0 rfl n hn T h I
theorem mix_go (e : EnSha E) (x : NoSha X) (N p : Nat) (st blk : List Nat) (len : Nat) (h : H) (h1 : st.length = 8) (h2 : blk.length = 64) (hp : h.get p = some (.cells (sumC st blk len) .rw)) (hpn : p < h.next) :
    ∃ h', callX E X (N + 75) (.fn k_sha_Sum_mix) [.ptr (some (p, 0))] h = some (.tup [], h') ∧ h'.get p = some (.cells (sumC (mixV st blk) blk len) .rw) ∧ Kq p h h' := by
  rw [x_cfn e.mix _ _ (Nat.le_of_ble_eq_true rfl) (x.mix _ _)]
  obtain ⟨ha, ra, ka⟩ := cube_go e x (N + 73) h
  obtain ⟨hb, rb, kb⟩ := sched_go e x (N + 4) p st blk len .rw ha h1 h2 (by rw [ka.2 _ hpn, hp]) (Nat.lt_of_lt_of_le hpn ka.1)
  have hbp : hb.get p = some (.cells (sumC st blk len) .rw) := by rw [kb.2 _ (Nat.lt_of_lt_of_le hpn ka.1), ka.2 _ hpn, hp]
  have hbn : p < hb.next := Nat.lt_of_lt_of_le hpn (Nat.le_trans ka.1 kb.1)
  have hab := ka.trans kb
  have hws : (wsN blk 64).length = 64 := wsN_len _ _
  have fin : ∀ (T : Tr V) (h3 : H), h3.get p = some (.cells (sumC st blk len) .rw) → Kp hb h3 → h3.get hb.next = some (.cells (ofI .u32 cubes) .rw) → h3.get (hb.next + 1) = some (.cells (ofI .u32 (wsN blk 64)) .rw) → MI p hb.next (hb.next + 1) 0 (wsN blk 64) (s8of st) h3 0 T h3 →
      ∃ h', fnEnd [] (bindE (blockE 0 (loopN (evC (callX E X (N + 74)) 140 (N + 74) none L_sha_Sum_mix_0) (N + 74) ⟨T, [], h3⟩)) (evC (callX E X (N + 74)) 140 (N + 74) none R_sha_Sum_mix_0)) = some (.tup [], h') ∧ h'.get p = some (.cells (sumC (mixV st blk) blk len) .rw) ∧ Kq p h h' := by
    intro T h3 g1 k3 g2 g3 I
    obtain ⟨T', h', r1, a, hh, t0, t2, t3, t4, t5, t6, t7, t8, t9, t10, t11, t62⟩ := mix_loop e x (N + 72) (N + 74) p hb.next (hb.next + 1) 0 (by omega) _ hws _ h3 g2 g3 T h3 I
    subst hh
    rw [r1]
    have fin2 : ∀ T, MJ p (s8l (rnds (wsN blk 64) (s8of st) 64)) st blk len h' 0 T h' → ∃ h2, fnEnd [] (blockE 2 (loopN (evC (callX E X (N + 74)) 140 (N + 74) none L_sha_Sum_mix_1) (N + 74) ⟨T, [], h'⟩)) = some (.tup [], h2) ∧ h2.get p = some (.cells (sumC (mixV st blk) blk len) .rw) ∧ Kq p h h2 := by
      intro T J
      obtain ⟨T2, h2', r2, b, u0, u123, u124, gp, eq⟩ := mix_loop2 (callX E X (N + 74)) (N + 74) p (by omega) _ st blk len rfl h1 h2 h' T h' J
      rw [r2]
      refine ⟨h2', ?_, gp, ⟨by rw [eq.1]; exact Nat.le_trans hab.1 k3.1, fun i hi hip => by rw [eq.2 _ hip, k3.2 _ (Nat.lt_of_lt_of_le hi hab.1), hab.2 _ hi]⟩⟩
      simp (config := {maxSteps := 2000000}) (disch := first | omega | (simp only [List.length_cons, List.length_nil, List.length_append, List.length_drop]; omega)) only [e_tup0, ↓s_skip, ↓s_ops, ↓s_dops, ↓s_seq, ↓s_cond, ↓s_block, ↓s_exit, ↓s_ret, ↓s_scope, ↓s_nil, ↓s_op, ↓s_opg, ↓s_wanted', ↓s_wantV, s_wantV, s_wantV0, beq_true, beq_false, ↓s_bindS, s_bindS, ↓s_bindE, s_bindE, s_bindE_ret, s_bindE_exit, s_bindE_iteN, s_norm, ↓s_condV, s_condV, s_block_ret, s_block_normal, s_block_exit, s_block_iteN, ↓s_getp, ↓s_getp0, ↓s_get, s_get0, ↓s_con, ↓s_fn, ↓s_os0, ↓s_os1, ↓s_list0, ↓s_list1, ↓s_mov, ↓s_pick, ↓s_pickE, s_pickE, ↓s_bin, ↓s_un, ↓s_minmax, ↓s_call, ↓s_callv, ↓s_callV, ↓s_ext, s_same, b_eql, b_neq, b_lss, b_leq, b_gtr, b_geq, b_add, b_sub, b_mul, b_eqlb, b_neqb, b_fnil, b_fnil', b_fnil2, b_fnil2', u_neg, u_not, m_two, s_end, s_end', s_end_iteN, s_res0, s_res1, s_tup1, s_tup2, ↓iteN_true, ↓iteN_false, iteN_true, iteN_false, Nat.zero_add, List.nil_append, List.append_nil, Nat.reduceEqDiff, reduceIte, decide_true, decide_false, Bool.not_true, Bool.not_false, List.getElem?_cons_zero, List.getElem?_cons_succ, Bool.false_eq_true, if_true, if_false, beq_self_eq_true]
    obtain ⟨R, eR⟩ : ∃ R, L_sha_Sum_mix_1 = R := ⟨_, rfl⟩
    rw [eR] at fin2
    generalize rnds (wsN blk 64) (s8of st) 64 = s at *
    have F : ∀ T : Tr V, fillV [.int .u32 0, .int .u32 0, .int .u32 0, .int .u32 0, .int .u32 0, .int .u32 0, .int .u32 0, .int .u32 0] [(0, 1, V.int .u32 (s.a : Nat)), (1, 1, V.int .u32 (s.b : Nat)), (2, 1, V.int .u32 (s.c : Nat)), (3, 1, V.int .u32 (s.d : Nat)), (4, 1, V.int .u32 (s.e : Nat)), (5, 1, V.int .u32 (s.f : Nat)), (6, 1, V.int .u32 (s.g : Nat)), (7, 1, V.int .u32 (s.h : Nat))] = some (ofI .u32 (s8l s)) := fun _ => fill_seq0 .u32 (s8l s) [.int .u32 0, .int .u32 0, .int .u32 0, .int .u32 0, .int .u32 0, .int .u32 0, .int .u32 0, .int .u32 0] rfl
    simp (config := {maxSteps := 2000000}) (disch := first | omega | (simp only [List.length_cons, List.length_nil, List.length_append, List.length_drop]; omega)) only [R_sha_Sum_mix_0, eR, t4, t5, t6, t7, t8, t9, t10, t11, F, ↓x_build, x_aggO, ↓b_xor32, ↓b_and32, ↓b_or32, ↓u_not32, b_xor32, b_and32, b_or32, u_not32, w32ad, ↓x_conv, x_convV, ↓x_fieldAddr, x_fieldV, ↓s_nilchk, x_nilchk, Nat.zero_add, Nat.add_zero, Nat.mul_one, ↓l_loop, ↓l_succ, ↓l_normal, l_normal, l_exit, l_ret, l_iteN, ↓h_put_get, ↓h_new_get, ↓h_del_get, h_next_put, h_next_new, h_next_del, Nat.add_assoc, Nat.add_eq_left, Nat.left_eq_add, Nat.add_left_cancel_iff, ↓s_load, m_load, ↓m_load1, m_load1, ↓m_st, m_stE, m_storeI, w_zero, w_succ, ↓s_alloc, ↓x_idxA, ↓x_idxS, x_idxAE, x_idxSE, x_addrE, x_idx, x_lenS, ↓s_len, ↓x_buildS, x_buildE, ↓x_P0, ↓x_P1, x_fill0, x_filli, x_fills, x_fillb, c_int, List.length_cons, List.length_nil, List.cons_append, List.drop_succ_cons, List.drop_zero, List.drop_nil, List.nil_append, Int.reduceAdd, Int.reduceToNat, Int.reduceLT, Int.reduceLE, Nat.reduceAdd, Nat.reduceMul, Nat.reduceLeDiff, Int.reduceEq, Int.reduceSub, Int.cast_ofNat_Int, s_resc, s_consR, m_load4, m_store4, s_res0, ↓s_skip, ↓s_ops, ↓s_dops, ↓s_seq, ↓s_cond, ↓s_block, ↓s_exit, ↓s_ret, ↓s_scope, ↓s_nil, ↓s_op, ↓s_opg, ↓s_wanted', ↓s_wantV, s_wantV, s_wantV0, beq_true, beq_false, ↓s_bindS, s_bindS, ↓s_bindE, s_bindE, s_bindE_ret, s_bindE_exit, s_bindE_iteN, s_norm, ↓s_condV, s_condV, s_block_ret, s_block_normal, s_block_exit, s_block_iteN, ↓s_getp, ↓s_getp0, ↓s_get, s_get0, ↓s_con, ↓s_fn, ↓s_os0, ↓s_os1, ↓s_list0, ↓s_list1, ↓s_mov, ↓s_pick, ↓s_pickE, s_pickE, ↓s_bin, ↓s_un, ↓s_minmax, ↓s_call, ↓s_callv, ↓s_callV, ↓s_ext, s_same, b_eql, b_neq, b_lss, b_leq, b_gtr, b_geq, b_add, b_sub, b_mul, b_eqlb, b_neqb, b_fnil, b_fnil', b_fnil2, b_fnil2', u_neg, u_not, m_two, s_end, s_end', s_end_iteN, s_res0, s_res1, s_tup1, s_tup2, ↓iteN_true, ↓iteN_false, iteN_true, iteN_false, Nat.zero_add, List.nil_append, List.append_nil, Nat.reduceEqDiff, reduceIte, decide_true, decide_false, Bool.not_true, Bool.not_false, List.getElem?_cons_zero, List.getElem?_cons_succ, Bool.false_eq_true, if_true, if_false, beq_self_eq_true]
    exact fin2 _ ⟨by omega, (by (simp only [s_getp, s_getp0, Nat.reduceEqDiff, decide_false, decide_true, iteN_false, iteN_true, t0]; try rfl)), (by (simp only [s_getp, s_getp0, Nat.reduceEqDiff, decide_false, decide_true, iteN_false, iteN_true, t4]; try rfl)), (by (simp only [s_getp, s_getp0, Nat.reduceEqDiff, decide_false, decide_true, iteN_false, iteN_true, t4]; try rfl)), by exact g1, Eqx.refl _ _⟩
  obtain ⟨R, eR⟩ : ∃ R, R_sha_Sum_mix_0 = R := ⟨_, rfl⟩
  obtain ⟨L, eL⟩ : ∃ R, L_sha_Sum_mix_0 = R := ⟨_, rfl⟩
  have z64 : List.replicate 64 (V.int .u32 0) = [.int .u32 0, .int .u32 0, .int .u32 0, .int .u32 0, .int .u32 0, .int .u32 0, .int .u32 0, .int .u32 0, .int .u32 0, .int .u32 0, .int .u32 0, .int .u32 0, .int .u32 0, .int .u32 0, .int .u32 0, .int .u32 0, .int .u32 0, .int .u32 0, .int .u32 0, .int .u32 0, .int .u32 0, .int .u32 0, .int .u32 0, .int .u32 0, .int .u32 0, .int .u32 0, .int .u32 0, .int .u32 0, .int .u32 0, .int .u32 0, .int .u32 0, .int .u32 0, .int .u32 0, .int .u32 0, .int .u32 0, .int .u32 0, .int .u32 0, .int .u32 0, .int .u32 0, .int .u32 0, .int .u32 0, .int .u32 0, .int .u32 0, .int .u32 0, .int .u32 0, .int .u32 0, .int .u32 0, .int .u32 0, .int .u32 0, .int .u32 0, .int .u32 0, .int .u32 0, .int .u32 0, .int .u32 0, .int .u32 0, .int .u32 0, .int .u32 0, .int .u32 0, .int .u32 0, .int .u32 0, .int .u32 0, .int .u32 0, .int .u32 0, .int .u32 0] := rfl
  rw [eR, eL] at fin
  rw [eR, eL, ← z64]
  have cl : (ofI .u32 cubes).length = 64 := rfl
  have wl : (ofI .u32 (wsN blk 64)).length = 64 := by rw [ofI_len, wsN_len]
  have zl : (List.replicate 64 (V.int .u32 0)).length = 64 := rfl
  have pl : ∀ l : List Nat, ∀ v ∈ ofI .u32 l, plainV v = true := by
    intro l
    induction l with
    | nil => intro v hv; cases hv
    | cons a r ih => intro v hv; rcases List.mem_cons.1 hv with rfl | hv; rfl; exact ih v hv
  have S : ∀ (h : H) (i : Nat) (l : List Nat), (ofI .u32 l).length = 64 → storeV h 64 (.ptr (some (i, 0))) (.agg (ofI .u32 l)) = storeE (h.get i) h i 0 (ofI .u32 l) := fun h i l hl => m_storeA h 64 i 0 _ (by rw [hl]; simp only [Bool.and_eq_true, List.all_eq_true]; exact ⟨rfl, pl l⟩)
  have s1 := fun h i => S h i cubes cl
  have s2 := fun h i => S h i (wsN blk 64) wl
  have W : ∀ l : List V, l.length = 64 → writeN (List.replicate 64 (.int .u32 0)) 0 l = l := fun l hl => by rw [w_zero, hl]; simp
  have w1 := W _ cl
  have w2 := W _ wl
  have st1 : ∀ h i, storeE (some (.cells (List.replicate 64 (.int .u32 0)) .rw)) h i 0 (ofI .u32 cubes) = some (h.put i (.cells (ofI .u32 cubes) .rw)) := fun h i => by rw [m_storeE _ _ _ _ _ (by rw [cl, zl]; omega), w1]
  have st2 : ∀ h i, storeE (some (.cells (List.replicate 64 (.int .u32 0)) .rw)) h i 0 (ofI .u32 (wsN blk 64)) = some (h.put i (.cells (ofI .u32 (wsN blk 64)) .rw)) := fun h i => by rw [m_storeE _ _ _ _ _ (by rw [wl, zl]; omega), w2]
  have q0 := sumC_s st blk len 0 h1 (by omega)
  have q1 := sumC_s st blk len 1 h1 (by omega)
  have q2 := sumC_s st blk len 2 h1 (by omega)
  have q3 := sumC_s st blk len 3 h1 (by omega)
  have q4 := sumC_s st blk len 4 h1 (by omega)
  have q5 := sumC_s st blk len 5 h1 (by omega)
  have q6 := sumC_s st blk len 6 h1 (by omega)
  have q7 := sumC_s st blk len 7 h1 (by omega)
  have ne1 : (hb.next = p) = False := by simp; omega
  have ne2 : (hb.next + 1 = p) = False := by simp; omega
  generalize sumC st blk len = sc at *
  generalize List.replicate 64 (V.int .u32 0) = z at *
  have x0 : idx (0:Int) 8 = some 0 := rfl
  have x1 : idx (1:Int) 8 = some 1 := rfl
  have x2 : idx (2:Int) 8 = some 2 := rfl
  have x3 : idx (3:Int) 8 = some 3 := rfl
  have x4 : idx (4:Int) 8 = some 4 := rfl
  have x5 : idx (5:Int) 8 = some 5 := rfl
  have x6 : idx (6:Int) 8 = some 6 := rfl
  have x7 : idx (7:Int) 8 = some 7 := rfl
  simp (config := {maxSteps := 2000000}) (disch := first | omega | (simp only [List.length_cons, List.length_nil, List.length_append, List.length_drop]; omega)) only [ra, rb, s1, s2, st1, st2, hbp, ne1, ne2, q0, q1, q2, q3, q4, q5, q6, q7, x0, x1, x2, x3, x4, x5, x6, x7, ↓b_xor32, ↓b_and32, ↓b_or32, ↓u_not32, b_xor32, b_and32, b_or32, u_not32, w32ad, ↓x_conv, x_convV, ↓x_fieldAddr, x_fieldV, ↓s_nilchk, x_nilchk, Nat.zero_add, Nat.add_zero, Nat.mul_one, ↓s_evD, ↓s_dnil, ↓s_dL, ↓s_dLg, ↓s_dR, ↓s_dRg, ↓s_dRj, ↓s_dRjg, ↓s_dB, ↓s_dBg, ↓s_dAlloc, ↓s_bindD, s_bindD, s_finD, s_finDx, s_addP0, s_addP1, s_addB, s_lookP, ↓s_bump0, ↓s_bump_get, s_bump_next, s_ok0, ↓s_ok1, s_okR0, ↓s_okR1, ↓s_okE, s_okE, s_okE1, s_nth0, s_nthS, Nat.add_zero, Bool.and_self, Bool.and_true, Bool.true_and, ↓l_loop, ↓l_succ, ↓l_normal, l_normal, l_exit, l_ret, l_iteN, ↓h_put_get, ↓h_new_get, ↓h_del_get, h_next_put, h_next_new, h_next_del, Nat.add_assoc, Nat.add_eq_left, Nat.left_eq_add, Nat.add_left_cancel_iff, ↓s_load, m_load, ↓m_load1, m_load1, ↓m_st, m_stE, m_storeI, w_zero, w_succ, ↓s_alloc, ↓x_idxA, ↓x_idxS, x_idxAE, x_idxSE, x_addrE, x_idx, x_lenS, ↓s_len, ↓x_buildS, x_buildE, ↓x_P0, ↓x_P1, x_fill0, x_filli, x_fills, x_fillb, c_int, List.length_cons, List.length_nil, List.cons_append, List.drop_succ_cons, List.drop_zero, List.drop_nil, List.nil_append, Int.reduceAdd, Int.reduceToNat, Int.reduceLT, Int.reduceLE, Nat.reduceAdd, Nat.reduceMul, Nat.reduceLeDiff, Int.reduceEq, Int.reduceSub, Int.cast_ofNat_Int, s_resc, s_consR, m_load4, m_store4, s_res0, ↓s_skip, ↓s_ops, ↓s_dops, ↓s_seq, ↓s_cond, ↓s_block, ↓s_exit, ↓s_ret, ↓s_scope, ↓s_nil, ↓s_op, ↓s_opg, ↓s_wanted', ↓s_wantV, s_wantV, s_wantV0, beq_true, beq_false, ↓s_bindS, s_bindS, ↓s_bindE, s_bindE, s_bindE_ret, s_bindE_exit, s_bindE_iteN, s_norm, ↓s_condV, s_condV, s_block_ret, s_block_normal, s_block_exit, s_block_iteN, ↓s_getp, ↓s_getp0, ↓s_get, s_get0, ↓s_con, ↓s_fn, ↓s_os0, ↓s_os1, ↓s_list0, ↓s_list1, ↓s_mov, ↓s_pick, ↓s_pickE, s_pickE, ↓s_bin, ↓s_un, ↓s_minmax, ↓s_call, ↓s_callv, ↓s_callV, ↓s_ext, s_same, b_eql, b_neq, b_lss, b_leq, b_gtr, b_geq, b_add, b_sub, b_mul, b_eqlb, b_neqb, b_fnil, b_fnil', b_fnil2, b_fnil2', u_neg, u_not, m_two, s_end, s_end', s_end_iteN, s_res0, s_res1, s_tup1, s_tup2, ↓iteN_true, ↓iteN_false, iteN_true, iteN_false, Nat.zero_add, List.nil_append, List.append_nil, Nat.reduceEqDiff, reduceIte, decide_true, decide_false, Bool.not_true, Bool.not_false, List.getElem?_cons_zero, List.getElem?_cons_succ, Bool.false_eq_true, if_true, if_false, beq_self_eq_true]
  refine fin _ _ (by simp only [h_put_get, h_new_get, h_next_new, h_next_put, ne1, ne2, decide_false, iteN_false, hbp]) ((((Kp.new _ _).trans (Kp.new _ _)).put _ (Nat.le_refl _)).put _ (Nat.le_succ _)) (by rw [h_put_ne _ _ (by omega), h_put_same]) (by rw [h_put_same]) ⟨by omega, rfl, ?_, ?_, ?_, ?_, ?_, ?_, ?_, ?_, ?_, ?_, ?_, ?_⟩
  all_goals (simp only [s_getp, s_getp0, Nat.reduceEqDiff, decide_false, decide_true, iteN_false, iteN_true, hbp]; try rfl)
end Go.Eng
namespace Go.Eng
open Go
variable {E : Nat → Option Fn} {X : Orc}
set_option linter.unusedSimpArgs false
set_option linter.unusedVariables false
structure Sm where
  st : List Nat
  blk : List Nat
  len : Nat
def eat1 (s : Sm) (b : Nat) : Sm :=
  ⟨if (s.len + 1) % 18446744073709551616 % 64 = 0 then mixV s.st (s.blk.set (s.len % 64) b) else s.st, s.blk.set (s.len % 64) b, (s.len + 1) % 18446744073709551616⟩
def absorb (s : Sm) (l : List Nat) : Sm := l.foldl eat1 s
theorem absorb_app (s : Sm) (a b : List Nat) : absorb s (a ++ b) = absorb (absorb s a) b := List.foldl_append
theorem set_mid (blk : List Nat) (u b : Nat) (l : List Nat) (h : u + l.length < blk.length) :
    (blk.set u b).take (u + 1) ++ l ++ (blk.set u b).drop (u + 1 + l.length) = blk.take u ++ (b :: l) ++ blk.drop (u + (b :: l).length) := by
  have hu : u < blk.length := by omega
  rw [List.set_eq_take_append_cons_drop, if_pos hu]
  have e1 : (blk.take u ++ b :: blk.drop (u + 1)).take (u + 1) = blk.take u ++ [b] := by
    rw [List.take_append]; simp [List.length_take, Nat.min_eq_left (Nat.le_of_lt hu), List.take_take]
  have e2 : (blk.take u ++ b :: blk.drop (u + 1)).drop (u + 1 + l.length) = blk.drop (u + (b :: l).length) := by
    rw [List.drop_append]
    simp only [List.length_take, Nat.min_eq_left (Nat.le_of_lt hu), List.length_cons]
    rw [List.drop_eq_nil_of_le (by simp only [List.length_take]; omega)]
    have : u + 1 + l.length - u = l.length + 1 := by omega
    rw [this, List.drop_succ_cons, List.drop_drop, List.nil_append]
    congr 1; omega
  rw [e1, e2]; simp
theorem absorb_part : ∀ (l : List Nat) (s : Sm), s.blk.length = 64 → s.len % 64 + l.length < 64 → absorb s l = ⟨s.st, s.blk.take (s.len % 64) ++ l ++ s.blk.drop (s.len % 64 + l.length), if l = [] then s.len else (s.len + l.length) % 18446744073709551616⟩ := by
  intro l
  induction l with
  | nil => intro s h1 h2; simp [absorb]
  | cons b r ih =>
    intro s h1 h2
    simp only [List.length_cons] at h2
    have hm : (s.len + 1) % 18446744073709551616 % 64 = s.len % 64 + 1 := by omega
    have hne : ¬ ((s.len + 1) % 18446744073709551616 % 64 = 0) := by omega
    have e1 : absorb s (b :: r) = absorb ⟨s.st, s.blk.set (s.len % 64) b, (s.len + 1) % 18446744073709551616⟩ r := by
      show absorb (eat1 s b) r = _
      unfold eat1; rw [if_neg hne]
    rw [e1, ih _ (by simpa using h1) (by simp only [hm]; omega)]
    simp only [hm]
    rw [set_mid _ _ _ _ (by omega)]
    congr 1
    simp only [List.length_cons, reduceCtorEq, if_false]
    split
    · rename_i h; subst h; rfl
    · omega
/-- a part of what is written: up to the block's end -/
theorem absorb_chunk (s : Sm) (l : List Nat) (h1 : s.blk.length = 64) (h2 : s.len % 64 + l.length ≤ 64) (h3 : l ≠ []) :
    absorb s l = ⟨if (s.len + l.length) % 18446744073709551616 % 64 = 0 then mixV s.st (s.blk.take (s.len % 64) ++ l ++ s.blk.drop (s.len % 64 + l.length)) else s.st,
      s.blk.take (s.len % 64) ++ l ++ s.blk.drop (s.len % 64 + l.length), (s.len + l.length) % 18446744073709551616⟩ := by
  have hl : 0 < l.length := List.length_pos_iff.2 h3
  by_cases hlt : s.len % 64 + l.length < 64
  · rw [absorb_part l s h1 hlt, if_neg h3, if_neg (by omega)]
  · obtain ⟨r, b, rfl⟩ : ∃ r b, l = r ++ [b] := ⟨l.dropLast, l.getLast h3, (List.dropLast_concat_getLast h3).symm⟩
    simp only [List.length_append, List.length_cons, List.length_nil, Nat.zero_add] at *
    rw [absorb_app, absorb_part r s h1 (by omega)]
    have hlen : (if r = [] then s.len else (s.len + r.length) % 18446744073709551616) % 64 = s.len % 64 + r.length := by
      split
      · rename_i h; subst h; simp
      · omega
    have hlen2 : ((if r = [] then s.len else (s.len + r.length) % 18446744073709551616) + 1) % 18446744073709551616 = (s.len + (r.length + 1)) % 18446744073709551616 := by
      split
      · rename_i h; subst h; simp
      · omega
    have hb : (s.blk.take (s.len % 64) ++ r ++ s.blk.drop (s.len % 64 + r.length)).set (s.len % 64 + r.length) b = s.blk.take (s.len % 64) ++ (r ++ [b]) ++ s.blk.drop (s.len % 64 + (r.length + 1)) := by
      have hd : s.blk.drop (s.len % 64 + r.length) = (s.blk.drop (s.len % 64 + r.length)).head (by intro h; have := congrArg List.length h; simp at this; omega) :: s.blk.drop (s.len % 64 + (r.length + 1)) := by
        rw [← Nat.add_assoc, ← List.drop_drop (i := 1)]
        simp
      rw [hd, List.set_append_right _ _ (by simp [List.length_take]; omega)]
      have : s.len % 64 + r.length - (s.blk.take (s.len % 64) ++ r).length = 0 := by simp [List.length_take]; omega
      rw [this]; simp
    show eat1 _ b = _
    unfold eat1
    simp only [hlen, hlen2, hb]
def SmOk (s : Sm) : Prop := s.st.length = 8 ∧ s.blk.length = 64 ∧ s.len < 18446744073709551616
theorem eat1_ok (s : Sm) (b : Nat) (h : SmOk s) : SmOk (eat1 s b) := by
  refine ⟨?_, by simp [eat1, h.2.1], by simp only [eat1]; omega⟩
  unfold eat1
  simp only
  split
  · rw [mixV_len]; exact h.1
  · exact h.1
theorem absorb_ok : ∀ (l : List Nat) (s : Sm), SmOk s → SmOk (absorb s l) := by
  intro l
  induction l with
  | nil => intro s h; exact h
  | cons b r ih => intro s h; exact ih _ (eat1_ok s b h)
/-- where bytes lie that are read -/
def Src (h0 : H) (p a0 : Nat) (a : Option (Nat × Nat)) (e : Nat) (l : List Nat) : Prop :=
  l = [] ∨ ∃ bi off vs m, a = some (bi, off) ∧ e = 1 ∧ bi ≠ p ∧ bi < a0 ∧ h0.get bi = some (.cells vs m) ∧ off + l.length ≤ vs.length ∧ (vs.drop off).take l.length = ofI .u8 l
theorem Src.drop {h0 : H} {p a0 : Nat} {a : Option (Nat × Nat)} {e : Nat} {l : List Nat} (s : Src h0 p a0 a e l) (m : Nat) : Src h0 p a0 (upA a m) e (l.drop m) := by
  rcases s with rfl | ⟨bi, off, vs, md, rfl, he, h1, h2, h3, h4, h5⟩
  · left; simp
  · by_cases hm : m < l.length
    · right
      refine ⟨bi, off + m, vs, md, rfl, he, h1, h2, h3, by rw [List.length_drop]; omega, ?_⟩
      rw [List.length_drop, ← List.drop_drop, ← List.drop_take, h5, ofI_drop]
    · left; exact List.drop_eq_nil_of_le (by omega)
theorem src_cells {h0 h : H} {p a0 : Nat} {a : Option (Nat × Nat)} {e : Nat} {l : List Nat} {c : Option Nat} (s : Src h0 p a0 a e l) (fr : ∀ i, i < a0 → i ≠ p → h.get i = h0.get i) (hl : l ≠ []) : srcCells h 1 (.slice a l.length c e) = some (l.length, ofI .u8 l) := by
  rcases s with rfl | ⟨bi, off, vs, md, rfl, he, h1, h2, h3, h4, h5⟩
  · exact absurd rfl hl
  · have hp : 0 < l.length := List.length_pos_iff.2 hl
    obtain ⟨n, en⟩ : ∃ n, l.length = n + 1 := ⟨l.length - 1, by omega⟩
    have rd : readN vs off (l.length * 1) = some (ofI .u8 l) := by rw [Nat.mul_one, readN_of _ _ _ h4, h5]
    unfold srcCells cellsAt
    rw [en] at rd ⊢
    simp only [fr bi h2 h1, h3, rd]
theorem sumC_blk (st blk : List Nat) (len u : Nat) (l : List Nat) (h1 : st.length = 8) (h2 : blk.length = 64) (h3 : u + l.length ≤ 64) :
    writeN (sumC st blk len) (8 + u) (ofI .u8 l) = sumC st (blk.take u ++ l ++ blk.drop (u + l.length)) len := by
  have hs : (ofI .u32 st).length = 8 := by rw [ofI_len, h1]
  rw [writeN_eq _ _ _ (by rw [sumC_len _ _ _ h1 h2]; omega), ofI_len]
  unfold sumC
  rw [List.take_append, List.drop_append, hs]
  have e1 : (ofI .u32 st).take (8 + u) = ofI .u32 st := List.take_of_length_le (by omega)
  have e2 : (ofI .u32 st).drop (8 + u + l.length) = [] := List.drop_eq_nil_of_le (by omega)
  rw [e1, e2, show 8 + u - 8 = u by omega, show 8 + u + l.length - 8 = u + l.length by omega]
  rw [List.take_append_of_le_length (by rw [ofI_len]; omega), List.drop_append_of_le_length (by rw [ofI_len]; omega), ofI_take, ofI_drop]
  simp only [ofI_app, List.append_assoc, List.nil_append]
theorem sumC_setlen (st blk : List Nat) (len n : Nat) (h1 : st.length = 8) (h2 : blk.length = 64) : writeN (sumC st blk len) 72 [.int .u64 (n : Int)] = sumC st blk n := by
  rw [writeN_set _ _ _ (by rw [sumC_len _ _ _ h1 h2]; omega)]
  unfold sumC
  rw [List.set_append_right _ _ (by rw [ofI_len]; omega), ofI_len, h1, List.set_append_right _ _ (by rw [ofI_len]; omega), ofI_len, h2]
  rfl
theorem sumC_blk' (st blk : List Nat) (len u : Nat) (l : List Nat) (h2 : blk.length = 64) (h3 : u + l.length ≤ 64) : (blk.take u ++ l ++ blk.drop (u + l.length)).length = 64 := by
  simp only [List.length_append, List.length_take, List.length_drop]; omega
noncomputable def copyE (esz : Nat) (d : V) (r : Option (Nat × List V)) (h : H) : Option (V × H) := match d with
  | .slice base dl _ _ => match r with
    | some (n, l) => match (bif Nat.ble n dl then n else dl) with
      | 0 => some (.int .i64 (.ofNat 0), h)
      | m + 1 => match base with
        | some (i, off) => match copyC h i off (l.take ((m + 1) * esz)) with | some h => some (.int .i64 (.ofNat (m + 1)), h) | none => none
        | none => none
    | none => none
  | _ => none
theorem x_copy (Q : Orc) (T : Tr V) (h : H) (esz : Nat) (d s : O) : Eng.step (.copy esz d s) Q T h = copyE esz (evO T d) (srcCells h esz (evO T s)) h := by
  show o_copy esz d s Q T h = _
  unfold o_copy copyE
  cases evO T d <;> rfl
theorem plain_ofI (k : IntKind) (l : List Nat) : (ofI k l).all plainV = true := by
  induction l with
  | nil => rfl
  | cons a r ih => simp only [ofI, List.all_cons, ih, Bool.and_true]; rfl
theorem copy_bytes (h : H) (i off dl : Nat) (c : Option Nat) (l : List Nat) (vs : List V) (md : Md) (hmd : isRo md = false) (hg : h.get i = some (.cells vs md)) (hl : l ≠ []) (hd : 0 < dl) (hv : off + min l.length dl ≤ vs.length) :
    copyE 1 (.slice (some (i, off)) dl c 1) (some (l.length, ofI .u8 l)) h = some (.int .i64 ((min l.length dl : Nat) : Int), h.put i (.cells (writeN vs off (ofI .u8 (l.take (min l.length dl)))) md)) := by
  have hp : 0 < l.length := List.length_pos_iff.2 hl
  have hm : (bif Nat.ble l.length dl then l.length else dl) = min l.length dl := by
    rw [cond_ble]
    split
    · rw [Nat.min_eq_left (by assumption)]
    · rw [Nat.min_eq_right (by omega)]
  unfold copyE
  simp only [hm]
  obtain ⟨m, em⟩ : ∃ m, min l.length dl = m + 1 := ⟨min l.length dl - 1, by omega⟩
  have hlen : (ofI .u8 (l.take (m + 1))).length = m + 1 := by rw [ofI_len, List.length_take]; omega
  rw [em] at hv ⊢
  simp only [Nat.mul_one, ofI_take]
  unfold copyC storeCells
  rw [plain_ofI, hg]
  simp only [_root_.cond_true, hlen, cond_ble]
  cases md with
  | ro => cases hmd
  | rw => simp only [if_pos hv]; rfl
  | sh => simp only [if_pos hv]; rfl
theorem slcS_lo (a : Option (Nat × Nat)) (n m : Nat) (c : Option Nat) (e : Nat) (k : IntKind) (hm : m ≤ n) (he : e = 1) : slcV 1 (some (.int k (m : Int))) none none (.slice a n c e) = some (.slice (upA a m) (n - m) (subC c m) 1) := by
  subst he
  unfold slcV
  simp only [Nat.beq_refl, Bool.true_or, _root_.cond_true, x_bnd0, x_bnd _ _ _ _ hm, Nat.mul_one]
theorem x_slcS (Q : Orc) (T : Tr V) (h : H) (esz : Nat) (x : O) (lo hi mx : Option O) : Eng.step (.slcS esz x lo hi mx) Q T h = same h (slcV esz (evM T lo) (evM T hi) (evM T mx) (evO T x)) := _root_.id rfl
theorem s_callVy (Q : Orc) (xs : List V) (l : Nat) (h : H) : callV Q xs (.yld l) h = Q (.yld l) xs h := _root_.id rfl
theorem w64ad (a b : Nat) : wr .u64 ((a : Int) + (b : Int)) = ((a + b) % 18446744073709551616 : Nat) := by
  rw [← Int.natCast_add]
  have : ∀ n : Nat, wr .u64 (n : Int) = asK .u64 (n % 18446744073709551616) := fun n => rfl
  rw [this]; unfold asK; rw [cond_blt, if_pos (by simp only [half]; omega)]; rfl
theorem u64n (n : Nat) (h : n < 18446744073709551616) : wr .u64 (n : Int) = (n : Int) := wr_u64 (by omega)
theorem b_rem64 (e : EqK) (h : H) (a : Nat) : binV .rem e h (.int .u64 (a : Int)) (.int .u64 64) = some (.int .u64 ((a % 64 : Nat) : Int)) := by
  rw [b_rem _ _ _ _ _ (by omega)]; rfl
end Go.Eng
namespace Go.Eng
open Go
variable {E : Nat → Option Fn} {X : Orc}
set_option linter.unusedSimpArgs false
set_option linter.unusedVariables false
structure FI (p a0 : Nat) (T0 : Tr V) (h0 : H) (fin : Sm) (rest : List Nat) (T : Tr V) (h : H) : Prop where
  t0 : evO T (.t 0) = .yld (a0 + 4)
  t1 : evO T (.t 1) = .ptr (some (a0 + 2, 0))
  t2 : evO T (.t 2) = .ptr (some (a0 + 1, 0))
  nx : a0 + 5 ≤ h.next
  b0 : h.get a0 = some (.cells [.ptr (some (p, 0))] .rw)
  b1 : h.get (a0 + 1) = some (.cells [.ptr (some (p, 0))] .rw)
  b3 : h.get (a0 + 3) = some .defers
  b4 : h.get (a0 + 4) = some (.loop 0 none 18 T0 [12] A_sha_Sum_Write_0 B_sha_Sum_Write_0 (a0 + 3))
  sv : ∃ a c e, h.get (a0 + 2) = some (.cells [.slice a rest.length c e] .rw) ∧ Src h0 p a0 a e rest
  gp : ∃ s : Sm, h.get p = some (.cells (sumC s.st s.blk s.len) .rw) ∧ SmOk s ∧ absorb s rest = fin
  fr : ∀ i, i < a0 → i ≠ p → h.get i = h0.get i
  pa : p < a0
theorem fill_step (e : EnSha E) (x : NoSha X) (M n p a0 : Nat) (T0 : Tr V) (hT : evO T0 (.t 2) = .ptr (some (a0, 0))) (h0 : H) (fin : Sm) (rest : List Nat) (hr : rest ≠ []) (hr2 : rest.length < 9223372036854775808) (T : Tr V) (h : H) (I : FI p a0 T0 h0 fin rest T h) :
    ∃ T' h' rest', evC (callX E X (M + 77)) 40 n none L_sha_Sum_fill_1_0 ⟨T, [], h⟩ = some (.normal, ⟨T', [], h'⟩) ∧ rest'.length < rest.length ∧ FI p a0 T0 h0 fin rest' T' h' := by
  obtain ⟨t0, t1, t2, nx, b0, b1, b3, b4, ⟨a, c, ez, g2, src⟩, ⟨s, gp, ok, ab⟩, fr, pa⟩ := I
  obtain ⟨ok1, ok2, ok3⟩ := ok
  have hpos : 0 < rest.length := List.length_pos_iff.2 hr
  have c0 : decide ((0 : Int) < (rest.length : Int)) = true := decide_eq_true (by omega)
  have he : ez = 1 := by
    rcases src with h | ⟨_, _, _, _, _, h, _⟩
    · exact absurd h hr
    · exact h
  subst he
  have sc := src_cells (h := h) (c := c) src fr hr
  obtain ⟨u, eu⟩ : ∃ u, s.len % 64 = u := ⟨_, rfl⟩
  have hu : u < 64 := by omega
  have r0 : ∀ e h, binV .rem e h (.int .u64 (s.len : Int)) (.int .u64 64) = some (.int .u64 ((u : Nat) : Int)) := fun e h => by rw [b_rem64, eu]
  have sle := sumC_len s.st s.blk s.len ok1 ok2
  have sb : ∀ h, slcB (some (.cells (sumC s.st s.blk s.len) .rw)) 64 1 p 8 (some (.int .u64 (u : Int))) none h = some (.slice (some (p, 8 + u)) (64 - u) (some (64 - u)) 1, h) := by
    intro h
    rw [x_slcB _ _ _ _ _ _ _ _ _ _ _ (by rw [sle]; omega) (x_bnd0 _ _) (x_bnd _ _ _ _ (by omega)), Nat.mul_one]
  obtain ⟨m, em⟩ : ∃ m, min rest.length (64 - u) = m := ⟨_, rfl⟩
  have hm1 : m ≤ rest.length := by omega
  have hm2 : u + m ≤ 64 := by omega
  have hm0 : 0 < m := by omega
  have lt : (rest.take m).length = m := by rw [List.length_take]; omega
  obtain ⟨blk', eblk⟩ : ∃ b, s.blk.take u ++ rest.take m ++ s.blk.drop (u + m) = b := ⟨_, rfl⟩
  have hb64 : blk'.length = 64 := by
    have := sumC_blk' s.st s.blk s.len u (rest.take m) ok2 (by omega)
    rw [lt] at this; rw [← eblk]; exact this
  have cp := copy_bytes h p (8 + u) (64 - u) (some (64 - u)) rest _ .rw rfl gp hr (by omega) (by rw [sle]; omega)
  have cb := sumC_blk s.st s.blk s.len u (rest.take m) ok1 ok2 (by omega)
  rw [lt, eblk] at cb
  rw [em, cb] at cp
  obtain ⟨len', elen⟩ : ∃ l, (s.len + m) % 18446744073709551616 = l := ⟨_, rfl⟩
  have hlen' : len' < 18446744073709551616 := by omega
  have wl : wr .u64 ((s.len : Int) + (m : Int)) = (len' : Int) := by rw [w64ad, elen]
  have wm : wr .u64 (m : Int) = (m : Int) := u64n _ (by omega)
  have gl := sumC_l s.st s.blk s.len ok1 ok2
  have gl1 := sumC_l s.st blk' s.len ok1 hb64
  have gl2 := sumC_l s.st blk' len' ok1 hb64
  have sl1 := sumC_len s.st blk' s.len ok1 hb64
  have pl := sumC_setlen s.st blk' s.len len' ok1 hb64
  have ste : ∀ (h : H) (v : V), storeE (some (.cells (sumC s.st blk' s.len) .rw)) h p 72 [v] = some (h.put p (.cells (writeN (sumC s.st blk' s.len) 72 [v]) .rw)) := fun h v => m_storeE _ _ _ _ _ (by rw [sl1]; simp only [List.length_cons, List.length_nil]; omega)
  have r1 : ∀ e h, binV .rem e h (.int .u64 (len' : Int)) (.int .u64 64) = some (.int .u64 ((len' % 64 : Nat) : Int)) := fun e h => b_rem64 e h len'
  have sls : slcV 1 (some (.int .i64 (m : Int))) none none (.slice a rest.length c 1) = some (.slice (upA a m) (rest.length - m) (subC c m) 1) := slcS_lo _ _ _ _ _ _ hm1 rfl
  have abm := absorb_chunk s (rest.take m) ok2 (by rw [lt]; omega) (by intro h; have := congrArg List.length h; rw [lt] at this; simp at this; omega)
  rw [lt, eu, eblk, elen] at abm
  have ab' : absorb (absorb s (rest.take m)) (rest.drop m) = fin := by rw [← absorb_app, List.take_append_drop, ab]
  rw [abm] at ab'
  have srd := src.drop m
  have ld : (rest.drop m).length = rest.length - m := List.length_drop ..
  generalize sumC s.st s.blk s.len = C0 at *
  obtain ⟨C1, eC1⟩ : ∃ C, sumC s.st blk' s.len = C := ⟨_, rfl⟩
  rw [eC1] at cp gl1 sl1 pl ste
  have n2p : (a0 + 2 = p) = False := by simp; omega
  have n4p : (a0 + 4 = p) = False := by simp; omega
  have n3p : (a0 + 3 = p) = False := by simp; omega
  have n1p : (a0 + 1 = p) = False := by simp; omega
  have n0p : (a0 = p) = False := by simp; omega
  have p0 : (p = a0) = False := by simp; omega
  have p1 : (p = a0 + 1) = False := by simp; omega
  have p2 : (p = a0 + 2) = False := by simp; omega
  have p3 : (p = a0 + 3) = False := by simp; omega
  have p4 : (p = a0 + 4) = False := by simp; omega
  by_cases hz : len' % 64 = 0
  · rw [if_pos hz] at ab'
    have c1 : decide (((len' % 64 : Nat) : Int) = 0) = true := decide_eq_true (by omega)
    have yx : ∀ a h, callX E X (M + 77) (.yld (a0 + 4)) a h = cYld (callX E X (M + 76)) (M + 76) (a0 + 4) a h := fun a h => x_yld (x.yld _ _ _)
    obtain ⟨h4, e4⟩ : ∃ h4, ((((h.put p (.cells C1 .rw)).put p (.cells (sumC s.st blk' len') .rw)).put (a0 + 2) (.cells [.slice (upA a m) (rest.length - m) (subC c m) 1] .rw)).put (a0 + 4) (.loop 1 none 18 T0 [12] A_sha_Sum_Write_0 B_sha_Sum_Write_0 (a0 + 3))) = h4 := ⟨_, rfl⟩
    have n4 : h4.next = h.next := by rw [← e4]; rfl
    obtain ⟨h2, rm, gm, km⟩ := mix_go e x (M + 1) p s.st blk' len' h4 ok1 hb64 (by rw [← e4]; (simp (disch := omega) only [l_loop, l_succ, l_normal, l_normal, l_exit, l_ret, l_iteN, h_put_get, h_new_get, h_del_get, h_next_put, h_next_new, h_next_del, Nat.add_assoc, Nat.add_eq_left, Nat.left_eq_add, Nat.add_left_cancel_iff, s_load, m_load, m_load1, m_load1, m_st, m_stE, m_storeI, m_storeE, w_zero, w_succ, s_alloc, x_idxA, x_idxS, x_idxAE, x_idxSE, x_addrE, x_idx, x_lenS, s_len, x_buildS, x_buildE, x_P0, x_P1, x_fill0, x_filli, x_fills, x_fillb, c_int, List.length_cons, List.length_nil, List.cons_append, List.drop_succ_cons, List.drop_zero, List.drop_nil, List.nil_append, Int.reduceAdd, Int.reduceToNat, Int.reduceLT, Int.reduceLE, Nat.reduceAdd, Nat.reduceMul, Nat.reduceLeDiff, Int.reduceEq, Int.reduceSub, Int.cast_ofNat_Int, s_resc, s_consR, m_load4, m_store4, s_res0, decide_true, decide_false, iteN_true, iteN_false, Nat.reduceEqDiff, Nat.reduceAdd, reduceCtorEq, n2p, n4p]; try rfl)) (by rw [n4]; omega)
    replace rm : callX E X (M + 76) (.fn k_sha_Sum_mix) [.ptr (some (p, 0))] h4 = some (.tup [], h2) := rm
    have k0 : h2.get a0 = h4.get a0 := km.2 _ (by omega) (by omega)
    have k1 : h2.get (a0 + 1) = h4.get (a0 + 1) := km.2 _ (by omega) (by omega)
    have k2 : h2.get (a0 + 2) = h4.get (a0 + 2) := km.2 _ (by omega) (by omega)
    have k3 : h2.get (a0 + 3) = h4.get (a0 + 3) := km.2 _ (by omega) (by omega)
    have k4 : h2.get (a0 + 4) = h4.get (a0 + 4) := km.2 _ (by omega) (by omega)
    have k0' : h4.get a0 = some (.cells [.ptr (some (p, 0))] .rw) := by rw [← e4]; (simp (disch := omega) only [l_loop, l_succ, l_normal, l_normal, l_exit, l_ret, l_iteN, h_put_get, h_new_get, h_del_get, h_next_put, h_next_new, h_next_del, Nat.add_assoc, Nat.add_eq_left, Nat.left_eq_add, Nat.add_left_cancel_iff, s_load, m_load, m_load1, m_load1, m_st, m_stE, m_storeI, m_storeE, w_zero, w_succ, s_alloc, x_idxA, x_idxS, x_idxAE, x_idxSE, x_addrE, x_idx, x_lenS, s_len, x_buildS, x_buildE, x_P0, x_P1, x_fill0, x_filli, x_fills, x_fillb, c_int, List.length_cons, List.length_nil, List.cons_append, List.drop_succ_cons, List.drop_zero, List.drop_nil, List.nil_append, Int.reduceAdd, Int.reduceToNat, Int.reduceLT, Int.reduceLE, Nat.reduceAdd, Nat.reduceMul, Nat.reduceLeDiff, Int.reduceEq, Int.reduceSub, Int.cast_ofNat_Int, s_resc, s_consR, m_load4, m_store4, s_res0, decide_true, decide_false, iteN_true, iteN_false, Nat.reduceEqDiff, Nat.reduceAdd, reduceCtorEq, b0, n2p, n4p, n3p, n1p, n0p, p0, p1, p2, p3, p4]; try rfl)
    have k1' : h2.get (a0 + 1) = some (.cells [.ptr (some (p, 0))] .rw) := by rw [k1, ← e4]; (simp (disch := omega) only [l_loop, l_succ, l_normal, l_normal, l_exit, l_ret, l_iteN, h_put_get, h_new_get, h_del_get, h_next_put, h_next_new, h_next_del, Nat.add_assoc, Nat.add_eq_left, Nat.left_eq_add, Nat.add_left_cancel_iff, s_load, m_load, m_load1, m_load1, m_st, m_stE, m_storeI, m_storeE, w_zero, w_succ, s_alloc, x_idxA, x_idxS, x_idxAE, x_idxSE, x_addrE, x_idx, x_lenS, s_len, x_buildS, x_buildE, x_P0, x_P1, x_fill0, x_filli, x_fills, x_fillb, c_int, List.length_cons, List.length_nil, List.cons_append, List.drop_succ_cons, List.drop_zero, List.drop_nil, List.nil_append, Int.reduceAdd, Int.reduceToNat, Int.reduceLT, Int.reduceLE, Nat.reduceAdd, Nat.reduceMul, Nat.reduceLeDiff, Int.reduceEq, Int.reduceSub, Int.cast_ofNat_Int, s_resc, s_consR, m_load4, m_store4, s_res0, decide_true, decide_false, iteN_true, iteN_false, Nat.reduceEqDiff, Nat.reduceAdd, reduceCtorEq, b1, n2p, n4p, n3p, n1p, n0p, p0, p1, p2, p3, p4]; try rfl)
    have k4' : h2.get (a0 + 4) = some (.loop 1 none 18 T0 [12] A_sha_Sum_Write_0 B_sha_Sum_Write_0 (a0 + 3)) := by rw [k4, ← e4]; (simp (disch := omega) only [l_loop, l_succ, l_normal, l_normal, l_exit, l_ret, l_iteN, h_put_get, h_new_get, h_del_get, h_next_put, h_next_new, h_next_del, Nat.add_assoc, Nat.add_eq_left, Nat.left_eq_add, Nat.add_left_cancel_iff, s_load, m_load, m_load1, m_load1, m_st, m_stE, m_storeI, m_storeE, w_zero, w_succ, s_alloc, x_idxA, x_idxS, x_idxAE, x_idxSE, x_addrE, x_idx, x_lenS, s_len, x_buildS, x_buildE, x_P0, x_P1, x_fill0, x_filli, x_fills, x_fillb, c_int, List.length_cons, List.length_nil, List.cons_append, List.drop_succ_cons, List.drop_zero, List.drop_nil, List.nil_append, Int.reduceAdd, Int.reduceToNat, Int.reduceLT, Int.reduceLE, Nat.reduceAdd, Nat.reduceMul, Nat.reduceLeDiff, Int.reduceEq, Int.reduceSub, Int.cast_ofNat_Int, s_resc, s_consR, m_load4, m_store4, s_res0, decide_true, decide_false, iteN_true, iteN_false, Nat.reduceEqDiff, Nat.reduceAdd, reduceCtorEq, b1, n2p, n4p, n3p, n1p, n0p, p0, p1, p2, p3, p4]; try rfl)
    refine ⟨_, _, rest.drop m, by
      simp (config := {maxSteps := 2000000}) (disch := first | omega | (simp only [List.length_cons, List.length_nil, List.length_append, List.length_drop]; omega)) only [L_sha_Sum_fill_1_0, t0, t1, t2, gp, g2, b0, b1, b3, b4, hT, c0, c1, sc, r0, r1, sb, cp, wl, wm, gl, gl1, gl2, ste, pl, sls, n2p, n4p, n3p, n1p, n0p, p0, p1, p2, p3, p4, m_storeS, ↓x_copy, ↓x_slcA, x_slcAE, ↓x_slcS, x_M1, x_M0, s_callVy, yx, y_cyld, y_ready, y_set1, y_mid, y_busy, y_end, y_done, y_jn, Option.isNone_none, ↓u_A_sha_Sum_Write_0, ↓u_B_sha_Sum_Write_0, e4, rm, k0', k1', k4', ↓b_xor32, ↓b_and32, ↓b_or32, ↓u_not32, b_xor32, b_and32, b_or32, u_not32, w32ad, ↓x_conv, x_convV, ↓x_fieldAddr, x_fieldV, ↓s_nilchk, x_nilchk, Nat.zero_add, Nat.add_zero, Nat.mul_one, ↓s_evD, ↓s_dnil, ↓s_dL, ↓s_dLg, ↓s_dR, ↓s_dRg, ↓s_dRj, ↓s_dRjg, ↓s_dB, ↓s_dBg, ↓s_dAlloc, ↓s_bindD, s_bindD, s_finD, s_finDx, s_addP0, s_addP1, s_addB, s_lookP, ↓s_bump0, ↓s_bump_get, s_bump_next, s_ok0, ↓s_ok1, s_okR0, ↓s_okR1, ↓s_okE, s_okE, s_okE1, s_nth0, s_nthS, Nat.add_zero, Bool.and_self, Bool.and_true, Bool.true_and, ↓l_loop, ↓l_succ, ↓l_normal, l_normal, l_exit, l_ret, l_iteN, ↓h_put_get, ↓h_new_get, ↓h_del_get, h_next_put, h_next_new, h_next_del, Nat.add_assoc, Nat.add_eq_left, Nat.left_eq_add, Nat.add_left_cancel_iff, ↓s_load, m_load, ↓m_load1, m_load1, ↓m_st, m_stE, m_storeI, m_storeE, w_zero, w_succ, ↓s_alloc, ↓x_idxA, ↓x_idxS, x_idxAE, x_idxSE, x_addrE, x_idx, x_lenS, ↓s_len, ↓x_buildS, x_buildE, ↓x_P0, ↓x_P1, x_fill0, x_filli, x_fills, x_fillb, c_int, List.length_cons, List.length_nil, List.cons_append, List.drop_succ_cons, List.drop_zero, List.drop_nil, List.nil_append, Int.reduceAdd, Int.reduceToNat, Int.reduceLT, Int.reduceLE, Nat.reduceAdd, Nat.reduceMul, Nat.reduceLeDiff, Int.reduceEq, Int.reduceSub, Int.cast_ofNat_Int, s_resc, s_consR, m_load4, m_store4, s_res0, ↓s_skip, ↓s_ops, ↓s_dops, ↓s_seq, ↓s_cond, ↓s_block, ↓s_exit, ↓s_ret, ↓s_scope, ↓s_nil, ↓s_op, ↓s_opg, ↓s_wanted', ↓s_wantV, s_wantV, s_wantV0, beq_true, beq_false, ↓s_bindS, s_bindS, ↓s_bindE, s_bindE, s_bindE_ret, s_bindE_exit, s_bindE_iteN, s_norm, ↓s_condV, s_condV, s_block_ret, s_block_normal, s_block_exit, s_block_iteN, ↓s_getp, ↓s_getp0, ↓s_get, s_get0, ↓s_con, ↓s_fn, ↓s_os0, ↓s_os1, ↓s_list0, ↓s_list1, ↓s_mov, ↓s_pick, ↓s_pickE, s_pickE, ↓s_bin, ↓s_un, ↓s_minmax, ↓s_call, ↓s_callv, ↓s_callV, ↓s_ext, s_same, b_eql, b_neq, b_lss, b_leq, b_gtr, b_geq, b_add, b_sub, b_mul, b_eqlb, b_neqb, b_fnil, b_fnil', b_fnil2, b_fnil2', u_neg, u_not, m_two, s_end, s_end', s_end_iteN, s_res0, s_res1, s_tup1, s_tup2, ↓iteN_true, ↓iteN_false, iteN_true, iteN_false, Nat.zero_add, List.nil_append, List.append_nil, Nat.reduceEqDiff, reduceIte, decide_true, decide_false, Bool.not_true, Bool.not_false, List.getElem?_cons_zero, List.getElem?_cons_succ, Bool.false_eq_true, if_true, if_false, beq_self_eq_true]
      exact rfl, by rw [ld]; omega, ?_⟩
    refine ⟨(by (simp only [s_getp, s_getp0, Nat.reduceEqDiff, decide_false, decide_true, iteN_false, iteN_true, t0]; try rfl)), (by (simp only [s_getp, s_getp0, Nat.reduceEqDiff, decide_false, decide_true, iteN_false, iteN_true, t1]; try rfl)), (by (simp only [s_getp, s_getp0, Nat.reduceEqDiff, decide_false, decide_true, iteN_false, iteN_true, t2]; try rfl)), by simp only [h_next_put]; have := km.1; omega, ?_, ?_, ?_, ?_, ⟨upA a m, subC c m, 1, ?_, srd⟩, ⟨⟨mixV s.st blk', blk', len'⟩, ?_, ⟨by rw [mixV_len]; exact ok1, hb64, hlen'⟩, ab'⟩, ?_, pa⟩
    · rw [h_put_ne _ _ (by omega), k0, ← e4]; (simp (disch := omega) only [l_loop, l_succ, l_normal, l_normal, l_exit, l_ret, l_iteN, h_put_get, h_new_get, h_del_get, h_next_put, h_next_new, h_next_del, Nat.add_assoc, Nat.add_eq_left, Nat.left_eq_add, Nat.add_left_cancel_iff, s_load, m_load, m_load1, m_load1, m_st, m_stE, m_storeI, m_storeE, w_zero, w_succ, s_alloc, x_idxA, x_idxS, x_idxAE, x_idxSE, x_addrE, x_idx, x_lenS, s_len, x_buildS, x_buildE, x_P0, x_P1, x_fill0, x_filli, x_fills, x_fillb, c_int, List.length_cons, List.length_nil, List.cons_append, List.drop_succ_cons, List.drop_zero, List.drop_nil, List.nil_append, Int.reduceAdd, Int.reduceToNat, Int.reduceLT, Int.reduceLE, Nat.reduceAdd, Nat.reduceMul, Nat.reduceLeDiff, Int.reduceEq, Int.reduceSub, Int.cast_ofNat_Int, s_resc, s_consR, m_load4, m_store4, s_res0, decide_true, decide_false, iteN_true, iteN_false, Nat.reduceEqDiff, Nat.reduceAdd, reduceCtorEq, b0, n2p, n4p, n3p, n1p, n0p, p0, p1, p2, p3, p4]; try rfl)
    · rw [h_put_ne _ _ (by omega), k1, ← e4]; (simp (disch := omega) only [l_loop, l_succ, l_normal, l_normal, l_exit, l_ret, l_iteN, h_put_get, h_new_get, h_del_get, h_next_put, h_next_new, h_next_del, Nat.add_assoc, Nat.add_eq_left, Nat.left_eq_add, Nat.add_left_cancel_iff, s_load, m_load, m_load1, m_load1, m_st, m_stE, m_storeI, m_storeE, w_zero, w_succ, s_alloc, x_idxA, x_idxS, x_idxAE, x_idxSE, x_addrE, x_idx, x_lenS, s_len, x_buildS, x_buildE, x_P0, x_P1, x_fill0, x_filli, x_fills, x_fillb, c_int, List.length_cons, List.length_nil, List.cons_append, List.drop_succ_cons, List.drop_zero, List.drop_nil, List.nil_append, Int.reduceAdd, Int.reduceToNat, Int.reduceLT, Int.reduceLE, Nat.reduceAdd, Nat.reduceMul, Nat.reduceLeDiff, Int.reduceEq, Int.reduceSub, Int.cast_ofNat_Int, s_resc, s_consR, m_load4, m_store4, s_res0, decide_true, decide_false, iteN_true, iteN_false, Nat.reduceEqDiff, Nat.reduceAdd, reduceCtorEq, b1, n2p, n4p, n3p, n1p, n0p, p0, p1, p2, p3, p4]; try rfl)
    · rw [h_put_ne _ _ (by omega), k3, ← e4]; (simp (disch := omega) only [l_loop, l_succ, l_normal, l_normal, l_exit, l_ret, l_iteN, h_put_get, h_new_get, h_del_get, h_next_put, h_next_new, h_next_del, Nat.add_assoc, Nat.add_eq_left, Nat.left_eq_add, Nat.add_left_cancel_iff, s_load, m_load, m_load1, m_load1, m_st, m_stE, m_storeI, m_storeE, w_zero, w_succ, s_alloc, x_idxA, x_idxS, x_idxAE, x_idxSE, x_addrE, x_idx, x_lenS, s_len, x_buildS, x_buildE, x_P0, x_P1, x_fill0, x_filli, x_fills, x_fillb, c_int, List.length_cons, List.length_nil, List.cons_append, List.drop_succ_cons, List.drop_zero, List.drop_nil, List.nil_append, Int.reduceAdd, Int.reduceToNat, Int.reduceLT, Int.reduceLE, Nat.reduceAdd, Nat.reduceMul, Nat.reduceLeDiff, Int.reduceEq, Int.reduceSub, Int.cast_ofNat_Int, s_resc, s_consR, m_load4, m_store4, s_res0, decide_true, decide_false, iteN_true, iteN_false, Nat.reduceEqDiff, Nat.reduceAdd, reduceCtorEq, b3, n2p, n4p, n3p, n1p, n0p, p0, p1, p2, p3, p4]; try rfl)
    · rw [h_put_same]; try rfl
    · rw [h_put_ne _ _ (by omega), k2, ← e4, ld]; (simp (disch := omega) only [l_loop, l_succ, l_normal, l_normal, l_exit, l_ret, l_iteN, h_put_get, h_new_get, h_del_get, h_next_put, h_next_new, h_next_del, Nat.add_assoc, Nat.add_eq_left, Nat.left_eq_add, Nat.add_left_cancel_iff, s_load, m_load, m_load1, m_load1, m_st, m_stE, m_storeI, m_storeE, w_zero, w_succ, s_alloc, x_idxA, x_idxS, x_idxAE, x_idxSE, x_addrE, x_idx, x_lenS, s_len, x_buildS, x_buildE, x_P0, x_P1, x_fill0, x_filli, x_fills, x_fillb, c_int, List.length_cons, List.length_nil, List.cons_append, List.drop_succ_cons, List.drop_zero, List.drop_nil, List.nil_append, Int.reduceAdd, Int.reduceToNat, Int.reduceLT, Int.reduceLE, Nat.reduceAdd, Nat.reduceMul, Nat.reduceLeDiff, Int.reduceEq, Int.reduceSub, Int.cast_ofNat_Int, s_resc, s_consR, m_load4, m_store4, s_res0, decide_true, decide_false, iteN_true, iteN_false, Nat.reduceEqDiff, Nat.reduceAdd, reduceCtorEq, b3, n2p, n4p, n3p, n1p, n0p, p0, p1, p2, p3, p4]; try rfl)
    · rw [h_put_ne _ _ (by omega), gm]
    · intro i hi hip
      have f0 : (p = i) = False := by simp; omega
      have f2 : (a0 + 2 = i) = False := by simp; omega
      have f4 : (a0 + 4 = i) = False := by simp; omega
      rw [h_put_ne _ _ (by omega), km.2 _ (by omega) hip, ← e4]
      simp only [h_put_get, f0, f2, f4, decide_false, iteN_false]
      exact fr i hi hip
  · rw [if_neg hz] at ab'
    have c1 : decide (((len' % 64 : Nat) : Int) = 0) = false := decide_eq_false (by omega)
    have yx : ∀ a h, callX E X (M + 77) (.yld (a0 + 4)) a h = cYld (callX E X (M + 76)) (M + 76) (a0 + 4) a h := fun a h => x_yld (x.yld _ _ _)
    refine ⟨_, _, rest.drop m, by
      simp (config := {maxSteps := 2000000}) (disch := first | omega | (simp only [List.length_cons, List.length_nil, List.length_append, List.length_drop]; omega)) only [L_sha_Sum_fill_1_0, t0, t1, t2, gp, g2, b0, b1, b3, b4, hT, c0, c1, sc, r0, r1, sb, cp, wl, wm, gl, gl1, gl2, ste, pl, sls, n2p, n4p, n1p, n0p, p0, p1, p2, p3, p4, m_storeS, ↓x_copy, ↓x_slcA, x_slcAE, ↓x_slcS, x_M1, x_M0, s_callVy, yx, y_cyld, y_ready, y_set1, y_mid, y_busy, y_end, y_done, y_jn, Option.isNone_none, ↓u_A_sha_Sum_Write_0, ↓u_B_sha_Sum_Write_0, ↓b_xor32, ↓b_and32, ↓b_or32, ↓u_not32, b_xor32, b_and32, b_or32, u_not32, w32ad, ↓x_conv, x_convV, ↓x_fieldAddr, x_fieldV, ↓s_nilchk, x_nilchk, Nat.zero_add, Nat.add_zero, Nat.mul_one, ↓s_evD, ↓s_dnil, ↓s_dL, ↓s_dLg, ↓s_dR, ↓s_dRg, ↓s_dRj, ↓s_dRjg, ↓s_dB, ↓s_dBg, ↓s_dAlloc, ↓s_bindD, s_bindD, s_finD, s_finDx, s_addP0, s_addP1, s_addB, s_lookP, ↓s_bump0, ↓s_bump_get, s_bump_next, s_ok0, ↓s_ok1, s_okR0, ↓s_okR1, ↓s_okE, s_okE, s_okE1, s_nth0, s_nthS, Nat.add_zero, Bool.and_self, Bool.and_true, Bool.true_and, ↓l_loop, ↓l_succ, ↓l_normal, l_normal, l_exit, l_ret, l_iteN, ↓h_put_get, ↓h_new_get, ↓h_del_get, h_next_put, h_next_new, h_next_del, Nat.add_assoc, Nat.add_eq_left, Nat.left_eq_add, Nat.add_left_cancel_iff, ↓s_load, m_load, ↓m_load1, m_load1, ↓m_st, m_stE, m_storeI, m_storeE, w_zero, w_succ, ↓s_alloc, ↓x_idxA, ↓x_idxS, x_idxAE, x_idxSE, x_addrE, x_idx, x_lenS, ↓s_len, ↓x_buildS, x_buildE, ↓x_P0, ↓x_P1, x_fill0, x_filli, x_fills, x_fillb, c_int, List.length_cons, List.length_nil, List.cons_append, List.drop_succ_cons, List.drop_zero, List.drop_nil, List.nil_append, Int.reduceAdd, Int.reduceToNat, Int.reduceLT, Int.reduceLE, Nat.reduceAdd, Nat.reduceMul, Nat.reduceLeDiff, Int.reduceEq, Int.reduceSub, Int.cast_ofNat_Int, s_resc, s_consR, m_load4, m_store4, s_res0, ↓s_skip, ↓s_ops, ↓s_dops, ↓s_seq, ↓s_cond, ↓s_block, ↓s_exit, ↓s_ret, ↓s_scope, ↓s_nil, ↓s_op, ↓s_opg, ↓s_wanted', ↓s_wantV, s_wantV, s_wantV0, beq_true, beq_false, ↓s_bindS, s_bindS, ↓s_bindE, s_bindE, s_bindE_ret, s_bindE_exit, s_bindE_iteN, s_norm, ↓s_condV, s_condV, s_block_ret, s_block_normal, s_block_exit, s_block_iteN, ↓s_getp, ↓s_getp0, ↓s_get, s_get0, ↓s_con, ↓s_fn, ↓s_os0, ↓s_os1, ↓s_list0, ↓s_list1, ↓s_mov, ↓s_pick, ↓s_pickE, s_pickE, ↓s_bin, ↓s_un, ↓s_minmax, ↓s_call, ↓s_callv, ↓s_callV, ↓s_ext, s_same, b_eql, b_neq, b_lss, b_leq, b_gtr, b_geq, b_add, b_sub, b_mul, b_eqlb, b_neqb, b_fnil, b_fnil', b_fnil2, b_fnil2', u_neg, u_not, m_two, s_end, s_end', s_end_iteN, s_res0, s_res1, s_tup1, s_tup2, ↓iteN_true, ↓iteN_false, iteN_true, iteN_false, Nat.zero_add, List.nil_append, List.append_nil, Nat.reduceEqDiff, reduceIte, decide_true, decide_false, Bool.not_true, Bool.not_false, List.getElem?_cons_zero, List.getElem?_cons_succ, Bool.false_eq_true, if_true, if_false, beq_self_eq_true]
      exact rfl, by rw [ld]; omega, ?_⟩
    refine ⟨(by (simp only [s_getp, s_getp0, Nat.reduceEqDiff, decide_false, decide_true, iteN_false, iteN_true, t0]; try rfl)), (by (simp only [s_getp, s_getp0, Nat.reduceEqDiff, decide_false, decide_true, iteN_false, iteN_true, t1]; try rfl)), (by (simp only [s_getp, s_getp0, Nat.reduceEqDiff, decide_false, decide_true, iteN_false, iteN_true, t2]; try rfl)), by simp only [h_next_put]; exact nx, by (simp (disch := omega) only [l_loop, l_succ, l_normal, l_normal, l_exit, l_ret, l_iteN, h_put_get, h_new_get, h_del_get, h_next_put, h_next_new, h_next_del, Nat.add_assoc, Nat.add_eq_left, Nat.left_eq_add, Nat.add_left_cancel_iff, s_load, m_load, m_load1, m_load1, m_st, m_stE, m_storeI, m_storeE, w_zero, w_succ, s_alloc, x_idxA, x_idxS, x_idxAE, x_idxSE, x_addrE, x_idx, x_lenS, s_len, x_buildS, x_buildE, x_P0, x_P1, x_fill0, x_filli, x_fills, x_fillb, c_int, List.length_cons, List.length_nil, List.cons_append, List.drop_succ_cons, List.drop_zero, List.drop_nil, List.nil_append, Int.reduceAdd, Int.reduceToNat, Int.reduceLT, Int.reduceLE, Nat.reduceAdd, Nat.reduceMul, Nat.reduceLeDiff, Int.reduceEq, Int.reduceSub, Int.cast_ofNat_Int, s_resc, s_consR, m_load4, m_store4, s_res0, decide_true, decide_false, iteN_true, iteN_false, Nat.reduceEqDiff, Nat.reduceAdd, reduceCtorEq, b0, n2p, n4p, n3p, n1p, n0p, p0, p1, p2, p3, p4]; try rfl), by (simp (disch := omega) only [l_loop, l_succ, l_normal, l_normal, l_exit, l_ret, l_iteN, h_put_get, h_new_get, h_del_get, h_next_put, h_next_new, h_next_del, Nat.add_assoc, Nat.add_eq_left, Nat.left_eq_add, Nat.add_left_cancel_iff, s_load, m_load, m_load1, m_load1, m_st, m_stE, m_storeI, m_storeE, w_zero, w_succ, s_alloc, x_idxA, x_idxS, x_idxAE, x_idxSE, x_addrE, x_idx, x_lenS, s_len, x_buildS, x_buildE, x_P0, x_P1, x_fill0, x_filli, x_fills, x_fillb, c_int, List.length_cons, List.length_nil, List.cons_append, List.drop_succ_cons, List.drop_zero, List.drop_nil, List.nil_append, Int.reduceAdd, Int.reduceToNat, Int.reduceLT, Int.reduceLE, Nat.reduceAdd, Nat.reduceMul, Nat.reduceLeDiff, Int.reduceEq, Int.reduceSub, Int.cast_ofNat_Int, s_resc, s_consR, m_load4, m_store4, s_res0, decide_true, decide_false, iteN_true, iteN_false, Nat.reduceEqDiff, Nat.reduceAdd, reduceCtorEq, b1, n2p, n4p, n3p, n1p, n0p, p0, p1, p2, p3, p4]; try rfl), by (simp (disch := omega) only [l_loop, l_succ, l_normal, l_normal, l_exit, l_ret, l_iteN, h_put_get, h_new_get, h_del_get, h_next_put, h_next_new, h_next_del, Nat.add_assoc, Nat.add_eq_left, Nat.left_eq_add, Nat.add_left_cancel_iff, s_load, m_load, m_load1, m_load1, m_st, m_stE, m_storeI, m_storeE, w_zero, w_succ, s_alloc, x_idxA, x_idxS, x_idxAE, x_idxSE, x_addrE, x_idx, x_lenS, s_len, x_buildS, x_buildE, x_P0, x_P1, x_fill0, x_filli, x_fills, x_fillb, c_int, List.length_cons, List.length_nil, List.cons_append, List.drop_succ_cons, List.drop_zero, List.drop_nil, List.nil_append, Int.reduceAdd, Int.reduceToNat, Int.reduceLT, Int.reduceLE, Nat.reduceAdd, Nat.reduceMul, Nat.reduceLeDiff, Int.reduceEq, Int.reduceSub, Int.cast_ofNat_Int, s_resc, s_consR, m_load4, m_store4, s_res0, decide_true, decide_false, iteN_true, iteN_false, Nat.reduceEqDiff, Nat.reduceAdd, reduceCtorEq, b3, n2p, n4p, n3p, n1p, n0p, p0, p1, p2, p3, p4]; try rfl), by (simp (disch := omega) only [l_loop, l_succ, l_normal, l_normal, l_exit, l_ret, l_iteN, h_put_get, h_new_get, h_del_get, h_next_put, h_next_new, h_next_del, Nat.add_assoc, Nat.add_eq_left, Nat.left_eq_add, Nat.add_left_cancel_iff, s_load, m_load, m_load1, m_load1, m_st, m_stE, m_storeI, m_storeE, w_zero, w_succ, s_alloc, x_idxA, x_idxS, x_idxAE, x_idxSE, x_addrE, x_idx, x_lenS, s_len, x_buildS, x_buildE, x_P0, x_P1, x_fill0, x_filli, x_fills, x_fillb, c_int, List.length_cons, List.length_nil, List.cons_append, List.drop_succ_cons, List.drop_zero, List.drop_nil, List.nil_append, Int.reduceAdd, Int.reduceToNat, Int.reduceLT, Int.reduceLE, Nat.reduceAdd, Nat.reduceMul, Nat.reduceLeDiff, Int.reduceEq, Int.reduceSub, Int.cast_ofNat_Int, s_resc, s_consR, m_load4, m_store4, s_res0, decide_true, decide_false, iteN_true, iteN_false, Nat.reduceEqDiff, Nat.reduceAdd, reduceCtorEq, b4, n2p, n4p, n3p, n1p, n0p, p0, p1, p2, p3, p4, y_jn]; try rfl), ⟨upA a m, subC c m, 1, by rw [ld]; (simp (disch := omega) only [l_loop, l_succ, l_normal, l_normal, l_exit, l_ret, l_iteN, h_put_get, h_new_get, h_del_get, h_next_put, h_next_new, h_next_del, Nat.add_assoc, Nat.add_eq_left, Nat.left_eq_add, Nat.add_left_cancel_iff, s_load, m_load, m_load1, m_load1, m_st, m_stE, m_storeI, m_storeE, w_zero, w_succ, s_alloc, x_idxA, x_idxS, x_idxAE, x_idxSE, x_addrE, x_idx, x_lenS, s_len, x_buildS, x_buildE, x_P0, x_P1, x_fill0, x_filli, x_fills, x_fillb, c_int, List.length_cons, List.length_nil, List.cons_append, List.drop_succ_cons, List.drop_zero, List.drop_nil, List.nil_append, Int.reduceAdd, Int.reduceToNat, Int.reduceLT, Int.reduceLE, Nat.reduceAdd, Nat.reduceMul, Nat.reduceLeDiff, Int.reduceEq, Int.reduceSub, Int.cast_ofNat_Int, s_resc, s_consR, m_load4, m_store4, s_res0, decide_true, decide_false, iteN_true, iteN_false, Nat.reduceEqDiff, Nat.reduceAdd, reduceCtorEq, g2, n2p, n4p, n3p, n1p, n0p, p0, p1, p2, p3, p4]; try rfl), srd⟩, ⟨⟨s.st, blk', len'⟩, by (simp (disch := omega) only [l_loop, l_succ, l_normal, l_normal, l_exit, l_ret, l_iteN, h_put_get, h_new_get, h_del_get, h_next_put, h_next_new, h_next_del, Nat.add_assoc, Nat.add_eq_left, Nat.left_eq_add, Nat.add_left_cancel_iff, s_load, m_load, m_load1, m_load1, m_st, m_stE, m_storeI, m_storeE, w_zero, w_succ, s_alloc, x_idxA, x_idxS, x_idxAE, x_idxSE, x_addrE, x_idx, x_lenS, s_len, x_buildS, x_buildE, x_P0, x_P1, x_fill0, x_filli, x_fills, x_fillb, c_int, List.length_cons, List.length_nil, List.cons_append, List.drop_succ_cons, List.drop_zero, List.drop_nil, List.nil_append, Int.reduceAdd, Int.reduceToNat, Int.reduceLT, Int.reduceLE, Nat.reduceAdd, Nat.reduceMul, Nat.reduceLeDiff, Int.reduceEq, Int.reduceSub, Int.cast_ofNat_Int, s_resc, s_consR, m_load4, m_store4, s_res0, decide_true, decide_false, iteN_true, iteN_false, Nat.reduceEqDiff, Nat.reduceAdd, reduceCtorEq, gp, n2p, n4p, n3p, n1p, n0p, p0, p1, p2, p3, p4]; try rfl), ⟨ok1, hb64, hlen'⟩, ab'⟩, ?_, pa⟩
    intro i hi hip
    have f0 : (p = i) = False := by simp; omega
    have f2 : (a0 + 2 = i) = False := by simp; omega
    have f4 : (a0 + 4 = i) = False := by simp; omega
    simp only [h_put_get, f0, f2, f4, decide_false, iteN_false]
    exact fr i hi hip
theorem fill_loop (e : EnSha E) (x : NoSha X) (M n p a0 : Nat) (T0 : Tr V) (hT : evO T0 (.t 2) = .ptr (some (a0, 0))) (h0 : H) (fin : Sm) : ∀ (k : Nat) (rest : List Nat), rest.length ≤ k → k < 9223372036854775808 → ∀ g, k < g → ∀ (T : Tr V) (h : H), FI p a0 T0 h0 fin rest T h →
    ∃ T' h', loopN (evC (callX E X (M + 77)) 40 n none L_sha_Sum_fill_1_0) g ⟨T, [], h⟩ = some (.exit 0, ⟨T', [], h'⟩) ∧ FI p a0 T0 h0 fin [] T' h' := by
  intro k
  induction k with
  | zero =>
    intro rest hl _ g hg T h I
    obtain rfl : rest = [] := List.length_eq_zero_iff.1 (by omega)
    obtain ⟨g, rfl⟩ : ∃ j, g = j + 1 := ⟨g - 1, by omega⟩
    obtain ⟨t0, t1, t2, nx, b0, b1, b3, b4, ⟨a, c, ez, g2, src⟩, gp, fr, pa⟩ := I
    have c0 : decide ((0 : Int) < (([] : List Nat).length : Int)) = false := rfl
    simp only [List.length_nil] at g2 c0
    rw [l_succ]
    refine ⟨_, _, by
      simp (config := {maxSteps := 2000000}) (disch := first | omega | (simp only [List.length_cons, List.length_nil, List.length_append, List.length_drop]; omega)) only [L_sha_Sum_fill_1_0, t1, g2, c0, ↓b_xor32, ↓b_and32, ↓b_or32, ↓u_not32, b_xor32, b_and32, b_or32, u_not32, w32ad, ↓x_conv, x_convV, ↓x_fieldAddr, x_fieldV, ↓s_nilchk, x_nilchk, Nat.zero_add, Nat.add_zero, Nat.mul_one, ↓l_loop, ↓l_succ, ↓l_normal, l_normal, l_exit, l_ret, l_iteN, ↓h_put_get, ↓h_new_get, ↓h_del_get, h_next_put, h_next_new, h_next_del, Nat.add_assoc, Nat.add_eq_left, Nat.left_eq_add, Nat.add_left_cancel_iff, ↓s_load, m_load, ↓m_load1, m_load1, ↓m_st, m_stE, m_storeI, m_storeE, w_zero, w_succ, ↓s_alloc, ↓x_idxA, ↓x_idxS, x_idxAE, x_idxSE, x_addrE, x_idx, x_lenS, ↓s_len, ↓x_buildS, x_buildE, ↓x_P0, ↓x_P1, x_fill0, x_filli, x_fills, x_fillb, c_int, List.length_cons, List.length_nil, List.cons_append, List.drop_succ_cons, List.drop_zero, List.drop_nil, List.nil_append, Int.reduceAdd, Int.reduceToNat, Int.reduceLT, Int.reduceLE, Nat.reduceAdd, Nat.reduceMul, Nat.reduceLeDiff, Int.reduceEq, Int.reduceSub, Int.cast_ofNat_Int, s_resc, s_consR, m_load4, m_store4, s_res0, ↓s_skip, ↓s_ops, ↓s_dops, ↓s_seq, ↓s_cond, ↓s_block, ↓s_exit, ↓s_ret, ↓s_scope, ↓s_nil, ↓s_op, ↓s_opg, ↓s_wanted', ↓s_wantV, s_wantV, s_wantV0, beq_true, beq_false, ↓s_bindS, s_bindS, ↓s_bindE, s_bindE, s_bindE_ret, s_bindE_exit, s_bindE_iteN, s_norm, ↓s_condV, s_condV, s_block_ret, s_block_normal, s_block_exit, s_block_iteN, ↓s_getp, ↓s_getp0, ↓s_get, s_get0, ↓s_con, ↓s_fn, ↓s_os0, ↓s_os1, ↓s_list0, ↓s_list1, ↓s_mov, ↓s_pick, ↓s_pickE, s_pickE, ↓s_bin, ↓s_un, ↓s_minmax, ↓s_call, ↓s_callv, ↓s_callV, ↓s_ext, s_same, b_eql, b_neq, b_lss, b_leq, b_gtr, b_geq, b_add, b_sub, b_mul, b_eqlb, b_neqb, b_fnil, b_fnil', b_fnil2, b_fnil2', u_neg, u_not, m_two, s_end, s_end', s_end_iteN, s_res0, s_res1, s_tup1, s_tup2, ↓iteN_true, ↓iteN_false, iteN_true, iteN_false, Nat.zero_add, List.nil_append, List.append_nil, Nat.reduceEqDiff, reduceIte, decide_true, decide_false, Bool.not_true, Bool.not_false, List.getElem?_cons_zero, List.getElem?_cons_succ, Bool.false_eq_true, if_true, if_false, beq_self_eq_true]
      exact rfl, ⟨(by (simp only [s_getp, s_getp0, Nat.reduceEqDiff, decide_false, decide_true, iteN_false, iteN_true, t0]; try rfl)), (by (simp only [s_getp, s_getp0, Nat.reduceEqDiff, decide_false, decide_true, iteN_false, iteN_true, t1]; try rfl)), (by (simp only [s_getp, s_getp0, Nat.reduceEqDiff, decide_false, decide_true, iteN_false, iteN_true, t2]; try rfl)), nx, b0, b1, b3, b4, ⟨a, c, ez, g2, src⟩, gp, fr, pa⟩⟩
  | succ k ih =>
    intro rest hl hk g hg T h I
    by_cases hr : rest = []
    · subst hr
      exact ih [] (by simp) (by omega) g (by omega) T h I
    · obtain ⟨g, rfl⟩ : ∃ j, g = j + 1 := ⟨g - 1, by omega⟩
      obtain ⟨T1, h1, r', s1, s2, s3⟩ := fill_step e x M n p a0 T0 hT h0 fin rest hr (by omega) T h I
      obtain ⟨T', h', s4, s5⟩ := ih r' (by omega) (by omega) g (by omega) T1 h1 s3
      exact ⟨T', h', by rw [l_succ, s1, l_normal]; exact s4, s5⟩
theorem sums_go (e : EnSha E) (x : NoSha X) (N p : Nat) (st blk : List Nat) (len : Nat) (md : Md) (h : H) (h1 : st.length = 8) (h2 : blk.length = 64) (hp : h.get p = some (.cells (sumC st blk len) md)) :
    callX E X (N + 1) (.fn k_sha_Sum_sums) [.ptr (some (p, 0))] h = some (.bool true, h) := by
  rw [x_cfn e.sums _ _ (Nat.le_of_ble_eq_true rfl) (x.sums _ _)]
  have go := sumC_o st blk len h1 h2
  have ne : ∀ h i, binV .neq (.ref .p) h (.ptr (some (i, 0))) (.ptr none) = some (.bool true) := fun h i => rfl
  generalize sumC st blk len = C at *
  simp (config := {maxSteps := 2000000}) (disch := first | omega | (simp only [List.length_cons, List.length_nil, List.length_append, List.length_drop]; omega)) only [hp, go, ne, ↓b_xor32, ↓b_and32, ↓b_or32, ↓u_not32, b_xor32, b_and32, b_or32, u_not32, w32ad, ↓x_conv, x_convV, ↓x_fieldAddr, x_fieldV, ↓s_nilchk, x_nilchk, Nat.zero_add, Nat.add_zero, Nat.mul_one, ↓l_loop, ↓l_succ, ↓l_normal, l_normal, l_exit, l_ret, l_iteN, ↓h_put_get, ↓h_new_get, ↓h_del_get, h_next_put, h_next_new, h_next_del, Nat.add_assoc, Nat.add_eq_left, Nat.left_eq_add, Nat.add_left_cancel_iff, ↓s_load, m_load, ↓m_load1, m_load1, ↓m_st, m_stE, m_storeI, m_storeE, w_zero, w_succ, ↓s_alloc, ↓x_idxA, ↓x_idxS, x_idxAE, x_idxSE, x_addrE, x_idx, x_lenS, ↓s_len, ↓x_buildS, x_buildE, ↓x_P0, ↓x_P1, x_fill0, x_filli, x_fills, x_fillb, c_int, List.length_cons, List.length_nil, List.cons_append, List.drop_succ_cons, List.drop_zero, List.drop_nil, List.nil_append, Int.reduceAdd, Int.reduceToNat, Int.reduceLT, Int.reduceLE, Nat.reduceAdd, Nat.reduceMul, Nat.reduceLeDiff, Int.reduceEq, Int.reduceSub, Int.cast_ofNat_Int, s_resc, s_consR, m_load4, m_store4, s_res0, ↓s_skip, ↓s_ops, ↓s_dops, ↓s_seq, ↓s_cond, ↓s_block, ↓s_exit, ↓s_ret, ↓s_scope, ↓s_nil, ↓s_op, ↓s_opg, ↓s_wanted', ↓s_wantV, s_wantV, s_wantV0, beq_true, beq_false, ↓s_bindS, s_bindS, ↓s_bindE, s_bindE, s_bindE_ret, s_bindE_exit, s_bindE_iteN, s_norm, ↓s_condV, s_condV, s_block_ret, s_block_normal, s_block_exit, s_block_iteN, ↓s_getp, ↓s_getp0, ↓s_get, s_get0, ↓s_con, ↓s_fn, ↓s_os0, ↓s_os1, ↓s_list0, ↓s_list1, ↓s_mov, ↓s_pick, ↓s_pickE, s_pickE, ↓s_bin, ↓s_un, ↓s_minmax, ↓s_call, ↓s_callv, ↓s_callV, ↓s_ext, s_same, b_eql, b_neq, b_lss, b_leq, b_gtr, b_geq, b_add, b_sub, b_mul, b_eqlb, b_neqb, b_fnil, b_fnil', b_fnil2, b_fnil2', u_neg, u_not, m_two, s_end, s_end', s_end_iteN, s_res0, s_res1, s_tup1, s_tup2, ↓iteN_true, ↓iteN_false, iteN_true, iteN_false, Nat.zero_add, List.nil_append, List.append_nil, Nat.reduceEqDiff, reduceIte, decide_true, decide_false, Bool.not_true, Bool.not_false, List.getElem?_cons_zero, List.getElem?_cons_succ, Bool.false_eq_true, if_true, if_false, beq_self_eq_true]
theorem fill_go (e : EnSha E) (x : NoSha X) (N : Nat) (v w : V) (hv : v.cells = [v]) (hw : w.cells = [w]) (h : H) :
    callX E X (N + 1) (.fn k_sha_Sum_fill) [v, w] h = some (.fn k_sha_Sum_fill_1 [] [.ptr (some (h.next + 1, 0)), .ptr (some (h.next, 0))], (h.new (.cells [v] .rw)).new (.cells [w] .rw)) := by
  rw [x_cfn e.fill _ _ (Nat.le_of_ble_eq_true rfl) (x.fill _ _)]
  simp (config := {maxSteps := 2000000}) (disch := first | omega | (simp only [List.length_cons, List.length_nil, List.length_append, List.length_drop]; omega)) only [hv, hw, ↓s_box, ↓s_mkfn, ↓b_xor32, ↓b_and32, ↓b_or32, ↓u_not32, b_xor32, b_and32, b_or32, u_not32, w32ad, ↓x_conv, x_convV, ↓x_fieldAddr, x_fieldV, ↓s_nilchk, x_nilchk, Nat.zero_add, Nat.add_zero, Nat.mul_one, ↓l_loop, ↓l_succ, ↓l_normal, l_normal, l_exit, l_ret, l_iteN, ↓h_put_get, ↓h_new_get, ↓h_del_get, h_next_put, h_next_new, h_next_del, Nat.add_assoc, Nat.add_eq_left, Nat.left_eq_add, Nat.add_left_cancel_iff, ↓s_load, m_load, ↓m_load1, m_load1, ↓m_st, m_stE, m_storeI, m_storeE, w_zero, w_succ, ↓s_alloc, ↓x_idxA, ↓x_idxS, x_idxAE, x_idxSE, x_addrE, x_idx, x_lenS, ↓s_len, ↓x_buildS, x_buildE, ↓x_P0, ↓x_P1, x_fill0, x_filli, x_fills, x_fillb, c_int, List.length_cons, List.length_nil, List.cons_append, List.drop_succ_cons, List.drop_zero, List.drop_nil, List.nil_append, Int.reduceAdd, Int.reduceToNat, Int.reduceLT, Int.reduceLE, Nat.reduceAdd, Nat.reduceMul, Nat.reduceLeDiff, Int.reduceEq, Int.reduceSub, Int.cast_ofNat_Int, s_resc, s_consR, m_load4, m_store4, s_res0, ↓s_skip, ↓s_ops, ↓s_dops, ↓s_seq, ↓s_cond, ↓s_block, ↓s_exit, ↓s_ret, ↓s_scope, ↓s_nil, ↓s_op, ↓s_opg, ↓s_wanted', ↓s_wantV, s_wantV, s_wantV0, beq_true, beq_false, ↓s_bindS, s_bindS, ↓s_bindE, s_bindE, s_bindE_ret, s_bindE_exit, s_bindE_iteN, s_norm, ↓s_condV, s_condV, s_block_ret, s_block_normal, s_block_exit, s_block_iteN, ↓s_getp, ↓s_getp0, ↓s_get, s_get0, ↓s_con, ↓s_fn, ↓s_os0, ↓s_os1, ↓s_list0, ↓s_list1, ↓s_mov, ↓s_pick, ↓s_pickE, s_pickE, ↓s_bin, ↓s_un, ↓s_minmax, ↓s_call, ↓s_callv, ↓s_callV, ↓s_ext, s_same, b_eql, b_neq, b_lss, b_leq, b_gtr, b_geq, b_add, b_sub, b_mul, b_eqlb, b_neqb, b_fnil, b_fnil', b_fnil2, b_fnil2', u_neg, u_not, m_two, s_end, s_end', s_end_iteN, s_res0, s_res1, s_tup1, s_tup2, ↓iteN_true, ↓iteN_false, iteN_true, iteN_false, Nat.zero_add, List.nil_append, List.append_nil, Nat.reduceEqDiff, reduceIte, decide_true, decide_false, Bool.not_true, Bool.not_false, List.getElem?_cons_zero, List.getElem?_cons_succ, Bool.false_eq_true, if_true, if_false, beq_self_eq_true]
theorem write_go (e : EnSha E) (x : NoSha X) (M p : Nat) (s : Sm) (ok : SmOk s) (l : List Nat) (a : Option (Nat × Nat)) (c : Option Nat) (ez : Nat) (h : H) (hM : l.length < M) (hM2 : l.length < 9223372036854775808) (hp : h.get p = some (.cells (sumC s.st s.blk s.len) .rw)) (hpn : p < h.next) (src : Src h p h.next a ez l) :
    ∃ h', callX E X (M + 80) (.fn k_sha_Sum_Write) [.ptr (some (p, 0)), .slice a l.length c ez] h = some (.ptr (some (p, 0)), h') ∧ h'.get p = some (.cells (sumC (absorb s l).st (absorb s l).blk (absorb s l).len) .rw) ∧ Kq p h h' := by
  rw [x_cfn e.write _ _ (Nat.le_of_ble_eq_true rfl) (x.write _ _)]
  have s1 := fun h hp => sums_go e x (M + 78) p s.st s.blk s.len .rw h ok.1 ok.2.1 hp
  obtain ⟨h1, e1⟩ : ∃ h1, h.new (.cells [.ptr (some (p, 0))] .rw) = h1 := ⟨_, rfl⟩
  have g1 : h1.get p = some (.cells (sumC s.st s.blk s.len) .rw) := by rw [← e1, h_new_ne _ _ (by omega), hp]
  have s2 := s1 h1 g1
  have f1 := fill_go e x (M + 78) (.ptr (some (p, 0))) (.slice a l.length c ez) rfl rfl h1
  have gb : h1.get h.next = some (.cells [.ptr (some (p, 0))] .rw) := by rw [← e1, h_new_same]
  have n1 : h1.next = h.next + 1 := by rw [← e1]; rfl
  rw [n1] at f1
  have fin : ∀ (T0 : Tr V), evO T0 (.t 2) = .ptr (some (h.next, 0)) →
     ∃ h', (fnEnd [.tmp 4] (bindE (blockE 0 (rangeEnd (h.next + 4) T0 [h.next + 3] (callF (callX E X (M + 79)) (.yld (h.next + 4)) (.fn k_sha_Sum_fill_1 [] [.ptr (some (h.next + 1 + 1, 0)), .ptr (some (h.next + 1, 0))]) ((((h1.new (.cells [.ptr (some (p, 0))] .rw)).new (.cells [.slice a l.length c ez] .rw)).new .defers).new (.loop 0 none 18 T0 [12] A_sha_Sum_Write_0 B_sha_Sum_Write_0 (h.next + 3)))))) (evC (callX E X (M + 79)) 18 (M + 79) none R_sha_Sum_Write_0))) = some (.ptr (some (p, 0)), h') ∧ h'.get p = some (.cells (sumC (absorb s l).st (absorb s l).blk (absorb s l).len) .rw) ∧ Kq p h h' := by
    intro T0 hT
    rw [s_callF, x_cfn e.fill1 _ _ (Nat.le_of_ble_eq_true rfl) (x.fill1 _ _)]
    obtain ⟨h5, e5⟩ : ∃ h5, (((h1.new (.cells [.ptr (some (p, 0))] .rw)).new (.cells [.slice a l.length c ez] .rw)).new .defers).new (.loop 0 none 18 T0 [12] A_sha_Sum_Write_0 B_sha_Sum_Write_0 (h.next + 3)) = h5 := ⟨_, rfl⟩
    rw [e5]
    have q : ∀ T : Tr V, evO T (.t 0) = .yld (h.next + 4) → evO T (.t 1) = .ptr (some (h.next + 2, 0)) → evO T (.t 2) = .ptr (some (h.next + 1, 0)) → FI p h.next T0 h (absorb s l) l T h5 := by
      intro T t0 t1 t2
      refine ⟨t0, t1, t2, ?_, ?_, ?_, ?_, ?_, ⟨a, c, ez, ?_, src⟩, ⟨s, ?_, ok, rfl⟩, ?_, hpn⟩
      · rw [← e5]; simp only [h_next_new, n1]; omega
      · rw [← e5]; (simp (disch := omega) only [l_loop, l_succ, l_normal, l_normal, l_exit, l_ret, l_iteN, h_put_get, h_new_get, h_del_get, h_next_put, h_next_new, h_next_del, Nat.add_assoc, Nat.add_eq_left, Nat.left_eq_add, Nat.add_left_cancel_iff, s_load, m_load, m_load1, m_load1, m_st, m_stE, m_storeI, m_storeE, w_zero, w_succ, s_alloc, x_idxA, x_idxS, x_idxAE, x_idxSE, x_addrE, x_idx, x_lenS, s_len, x_buildS, x_buildE, x_P0, x_P1, x_fill0, x_filli, x_fills, x_fillb, c_int, List.length_cons, List.length_nil, List.cons_append, List.drop_succ_cons, List.drop_zero, List.drop_nil, List.nil_append, Int.reduceAdd, Int.reduceToNat, Int.reduceLT, Int.reduceLE, Nat.reduceAdd, Nat.reduceMul, Nat.reduceLeDiff, Int.reduceEq, Int.reduceSub, Int.cast_ofNat_Int, s_resc, s_consR, m_load4, m_store4, s_res0, decide_true, decide_false, iteN_true, iteN_false, Nat.reduceEqDiff, Nat.reduceAdd, reduceCtorEq, gb, n1]; try rfl)
      · rw [← e5]; (simp (disch := omega) only [l_loop, l_succ, l_normal, l_normal, l_exit, l_ret, l_iteN, h_put_get, h_new_get, h_del_get, h_next_put, h_next_new, h_next_del, Nat.add_assoc, Nat.add_eq_left, Nat.left_eq_add, Nat.add_left_cancel_iff, s_load, m_load, m_load1, m_load1, m_st, m_stE, m_storeI, m_storeE, w_zero, w_succ, s_alloc, x_idxA, x_idxS, x_idxAE, x_idxSE, x_addrE, x_idx, x_lenS, s_len, x_buildS, x_buildE, x_P0, x_P1, x_fill0, x_filli, x_fills, x_fillb, c_int, List.length_cons, List.length_nil, List.cons_append, List.drop_succ_cons, List.drop_zero, List.drop_nil, List.nil_append, Int.reduceAdd, Int.reduceToNat, Int.reduceLT, Int.reduceLE, Nat.reduceAdd, Nat.reduceMul, Nat.reduceLeDiff, Int.reduceEq, Int.reduceSub, Int.cast_ofNat_Int, s_resc, s_consR, m_load4, m_store4, s_res0, decide_true, decide_false, iteN_true, iteN_false, Nat.reduceEqDiff, Nat.reduceAdd, reduceCtorEq, gb, n1]; try rfl)
      · rw [← e5]; (simp (disch := omega) only [l_loop, l_succ, l_normal, l_normal, l_exit, l_ret, l_iteN, h_put_get, h_new_get, h_del_get, h_next_put, h_next_new, h_next_del, Nat.add_assoc, Nat.add_eq_left, Nat.left_eq_add, Nat.add_left_cancel_iff, s_load, m_load, m_load1, m_load1, m_st, m_stE, m_storeI, m_storeE, w_zero, w_succ, s_alloc, x_idxA, x_idxS, x_idxAE, x_idxSE, x_addrE, x_idx, x_lenS, s_len, x_buildS, x_buildE, x_P0, x_P1, x_fill0, x_filli, x_fills, x_fillb, c_int, List.length_cons, List.length_nil, List.cons_append, List.drop_succ_cons, List.drop_zero, List.drop_nil, List.nil_append, Int.reduceAdd, Int.reduceToNat, Int.reduceLT, Int.reduceLE, Nat.reduceAdd, Nat.reduceMul, Nat.reduceLeDiff, Int.reduceEq, Int.reduceSub, Int.cast_ofNat_Int, s_resc, s_consR, m_load4, m_store4, s_res0, decide_true, decide_false, iteN_true, iteN_false, Nat.reduceEqDiff, Nat.reduceAdd, reduceCtorEq, gb, n1]; try rfl)
      · rw [← e5]; (simp (disch := omega) only [l_loop, l_succ, l_normal, l_normal, l_exit, l_ret, l_iteN, h_put_get, h_new_get, h_del_get, h_next_put, h_next_new, h_next_del, Nat.add_assoc, Nat.add_eq_left, Nat.left_eq_add, Nat.add_left_cancel_iff, s_load, m_load, m_load1, m_load1, m_st, m_stE, m_storeI, m_storeE, w_zero, w_succ, s_alloc, x_idxA, x_idxS, x_idxAE, x_idxSE, x_addrE, x_idx, x_lenS, s_len, x_buildS, x_buildE, x_P0, x_P1, x_fill0, x_filli, x_fills, x_fillb, c_int, List.length_cons, List.length_nil, List.cons_append, List.drop_succ_cons, List.drop_zero, List.drop_nil, List.nil_append, Int.reduceAdd, Int.reduceToNat, Int.reduceLT, Int.reduceLE, Nat.reduceAdd, Nat.reduceMul, Nat.reduceLeDiff, Int.reduceEq, Int.reduceSub, Int.cast_ofNat_Int, s_resc, s_consR, m_load4, m_store4, s_res0, decide_true, decide_false, iteN_true, iteN_false, Nat.reduceEqDiff, Nat.reduceAdd, reduceCtorEq, gb, n1]; try rfl)
      · rw [← e5]; (simp (disch := omega) only [l_loop, l_succ, l_normal, l_normal, l_exit, l_ret, l_iteN, h_put_get, h_new_get, h_del_get, h_next_put, h_next_new, h_next_del, Nat.add_assoc, Nat.add_eq_left, Nat.left_eq_add, Nat.add_left_cancel_iff, s_load, m_load, m_load1, m_load1, m_st, m_stE, m_storeI, m_storeE, w_zero, w_succ, s_alloc, x_idxA, x_idxS, x_idxAE, x_idxSE, x_addrE, x_idx, x_lenS, s_len, x_buildS, x_buildE, x_P0, x_P1, x_fill0, x_filli, x_fills, x_fillb, c_int, List.length_cons, List.length_nil, List.cons_append, List.drop_succ_cons, List.drop_zero, List.drop_nil, List.nil_append, Int.reduceAdd, Int.reduceToNat, Int.reduceLT, Int.reduceLE, Nat.reduceAdd, Nat.reduceMul, Nat.reduceLeDiff, Int.reduceEq, Int.reduceSub, Int.cast_ofNat_Int, s_resc, s_consR, m_load4, m_store4, s_res0, decide_true, decide_false, iteN_true, iteN_false, Nat.reduceEqDiff, Nat.reduceAdd, reduceCtorEq, gb, n1]; try rfl)
      · have z1 : (h.next + 1 = p) = False := by simp; omega
        have z2 : (h.next + 2 = p) = False := by simp; omega
        have z3 : (h.next + 3 = p) = False := by simp; omega
        have z4 : (h.next + 4 = p) = False := by simp; omega
        rw [← e5]; (simp (disch := omega) only [l_loop, l_succ, l_normal, l_normal, l_exit, l_ret, l_iteN, h_put_get, h_new_get, h_del_get, h_next_put, h_next_new, h_next_del, Nat.add_assoc, Nat.add_eq_left, Nat.left_eq_add, Nat.add_left_cancel_iff, s_load, m_load, m_load1, m_load1, m_st, m_stE, m_storeI, m_storeE, w_zero, w_succ, s_alloc, x_idxA, x_idxS, x_idxAE, x_idxSE, x_addrE, x_idx, x_lenS, s_len, x_buildS, x_buildE, x_P0, x_P1, x_fill0, x_filli, x_fills, x_fillb, c_int, List.length_cons, List.length_nil, List.cons_append, List.drop_succ_cons, List.drop_zero, List.drop_nil, List.nil_append, Int.reduceAdd, Int.reduceToNat, Int.reduceLT, Int.reduceLE, Nat.reduceAdd, Nat.reduceMul, Nat.reduceLeDiff, Int.reduceEq, Int.reduceSub, Int.cast_ofNat_Int, s_resc, s_consR, m_load4, m_store4, s_res0, decide_true, decide_false, iteN_true, iteN_false, Nat.reduceEqDiff, Nat.reduceAdd, reduceCtorEq, g1, n1, z1, z2, z3, z4]; try rfl)
      · intro i hi hip
        have z0 : (h.next = i) = False := by simp; omega
        have z1 : (h.next + 1 = i) = False := by simp; omega
        have z2 : (h.next + 2 = i) = False := by simp; omega
        have z3 : (h.next + 3 = i) = False := by simp; omega
        have z4 : (h.next + 4 = i) = False := by simp; omega
        rw [← e5, ← e1]; (simp (disch := omega) only [l_loop, l_succ, l_normal, l_normal, l_exit, l_ret, l_iteN, h_put_get, h_new_get, h_del_get, h_next_put, h_next_new, h_next_del, Nat.add_assoc, Nat.add_eq_left, Nat.left_eq_add, Nat.add_left_cancel_iff, s_load, m_load, m_load1, m_load1, m_st, m_stE, m_storeI, m_storeE, w_zero, w_succ, s_alloc, x_idxA, x_idxS, x_idxAE, x_idxSE, x_addrE, x_idx, x_lenS, s_len, x_buildS, x_buildE, x_P0, x_P1, x_fill0, x_filli, x_fills, x_fillb, c_int, List.length_cons, List.length_nil, List.cons_append, List.drop_succ_cons, List.drop_zero, List.drop_nil, List.nil_append, Int.reduceAdd, Int.reduceToNat, Int.reduceLT, Int.reduceLE, Nat.reduceAdd, Nat.reduceMul, Nat.reduceLeDiff, Int.reduceEq, Int.reduceSub, Int.cast_ofNat_Int, s_resc, s_consR, m_load4, m_store4, s_res0, decide_true, decide_false, iteN_true, iteN_false, Nat.reduceEqDiff, Nat.reduceAdd, reduceCtorEq, n1, z0, z1, z2, z3, z4]; try rfl)
    obtain ⟨T', h', r1, t0, t1, t2, nx, b0, b1, b3, b4, sv, ⟨s', gp, ok', ab'⟩, fr, pa⟩ := fill_loop e x (M + 1) (M + 78) p h.next T0 hT h (absorb s l) l.length l (Nat.le_refl _) (by omega) (M + 78) (by omega) _ h5 (q (ofList 0 ([] ++ ([V.yld (h.next + 4)] ++ [V.ptr (some (h.next + 1 + 1, 0)), V.ptr (some (h.next + 1, 0))])) .e) (by (simp only [s_getp, s_getp0, Nat.reduceEqDiff, decide_false, decide_true, iteN_false, iteN_true, s_list1, s_list0, List.nil_append, List.cons_append, s_get]; try rfl)) (by (simp only [s_getp, s_getp0, Nat.reduceEqDiff, decide_false, decide_true, iteN_false, iteN_true, s_list1, s_list0, List.nil_append, List.cons_append, s_get]; try rfl)) (by (simp only [s_getp, s_getp0, Nat.reduceEqDiff, decide_false, decide_true, iteN_false, iteN_true, s_list1, s_list0, List.nil_append, List.cons_append, s_get]; try rfl)))
    replace r1 : loopN (evC (callX E X (M + 78)) 40 (M + 78) none L_sha_Sum_fill_1_0) (M + 78) ⟨ofList 0 ([] ++ ([V.yld (h.next + 4)] ++ [V.ptr (some (h.next + 1 + 1, 0)), V.ptr (some (h.next + 1, 0))])) .e, [], h5⟩ = some (.exit 0, ⟨T', [], h'⟩) := r1
    have ab2 : s' = absorb s l := ab'
    subst ab2
    have z4 : (h.next + 4 = h.next) = False := by simp
    rw [s_block, s_loop, r1]
    simp (config := {maxSteps := 2000000}) (disch := first | omega | (simp only [List.length_cons, List.length_nil, List.length_append, List.length_drop]; omega)) only [b0, b3, b4, hT, z4, R_sha_Sum_Write_0, e_tup0, r_end, r_0, r_jn, e_ret, d_cons, d_yes, d_nil, e_some, ↓b_xor32, ↓b_and32, ↓b_or32, ↓u_not32, b_xor32, b_and32, b_or32, u_not32, w32ad, ↓x_conv, x_convV, ↓x_fieldAddr, x_fieldV, ↓s_nilchk, x_nilchk, Nat.zero_add, Nat.add_zero, Nat.mul_one, ↓l_loop, ↓l_succ, ↓l_normal, l_normal, l_exit, l_ret, l_iteN, ↓h_put_get, ↓h_new_get, ↓h_del_get, h_next_put, h_next_new, h_next_del, Nat.add_assoc, Nat.add_eq_left, Nat.left_eq_add, Nat.add_left_cancel_iff, ↓s_load, m_load, ↓m_load1, m_load1, ↓m_st, m_stE, m_storeI, m_storeE, w_zero, w_succ, ↓s_alloc, ↓x_idxA, ↓x_idxS, x_idxAE, x_idxSE, x_addrE, x_idx, x_lenS, ↓s_len, ↓x_buildS, x_buildE, ↓x_P0, ↓x_P1, x_fill0, x_filli, x_fills, x_fillb, c_int, List.length_cons, List.length_nil, List.cons_append, List.drop_succ_cons, List.drop_zero, List.drop_nil, List.nil_append, Int.reduceAdd, Int.reduceToNat, Int.reduceLT, Int.reduceLE, Nat.reduceAdd, Nat.reduceMul, Nat.reduceLeDiff, Int.reduceEq, Int.reduceSub, Int.cast_ofNat_Int, s_resc, s_consR, m_load4, m_store4, s_res0, ↓s_skip, ↓s_ops, ↓s_dops, ↓s_seq, ↓s_cond, ↓s_block, ↓s_exit, ↓s_ret, ↓s_scope, ↓s_nil, ↓s_op, ↓s_opg, ↓s_wanted', ↓s_wantV, s_wantV, s_wantV0, beq_true, beq_false, ↓s_bindS, s_bindS, ↓s_bindE, s_bindE, s_bindE_ret, s_bindE_exit, s_bindE_iteN, s_norm, ↓s_condV, s_condV, s_block_ret, s_block_normal, s_block_exit, s_block_iteN, ↓s_getp, ↓s_getp0, ↓s_get, s_get0, ↓s_con, ↓s_fn, ↓s_os0, ↓s_os1, ↓s_list0, ↓s_list1, ↓s_mov, ↓s_pick, ↓s_pickE, s_pickE, ↓s_bin, ↓s_un, ↓s_minmax, ↓s_call, ↓s_callv, ↓s_callV, ↓s_ext, s_same, b_eql, b_neq, b_lss, b_leq, b_gtr, b_geq, b_add, b_sub, b_mul, b_eqlb, b_neqb, b_fnil, b_fnil', b_fnil2, b_fnil2', u_neg, u_not, m_two, s_end, s_end', s_end_iteN, s_res0, s_res1, s_tup1, s_tup2, ↓iteN_true, ↓iteN_false, iteN_true, iteN_false, Nat.zero_add, List.nil_append, List.append_nil, Nat.reduceEqDiff, reduceIte, decide_true, decide_false, Bool.not_true, Bool.not_false, List.getElem?_cons_zero, List.getElem?_cons_succ, Bool.false_eq_true, if_true, if_false, beq_self_eq_true]
    refine ⟨_, rfl, ?_, ?_⟩
    · rw [h_del_ne _ (by omega), h_del_ne _ (by omega), gp]
    · refine ⟨by simp only [h_next_del]; omega, fun i hi hip => ?_⟩
      rw [h_del_ne _ (by omega), h_del_ne _ (by omega), fr i hi hip]
  obtain ⟨R, eR⟩ : ∃ R, R_sha_Sum_Write_0 = R := ⟨_, rfl⟩
  rw [eR] at fin ⊢
  simp (config := {maxSteps := 2000000}) (disch := first | omega | (simp only [List.length_cons, List.length_nil, List.length_append, List.length_drop]; omega)) only [e1, s2, f1, gb, n1, ↓s_box, ↓s_range, c_ptr, ↓b_xor32, ↓b_and32, ↓b_or32, ↓u_not32, b_xor32, b_and32, b_or32, u_not32, w32ad, ↓x_conv, x_convV, ↓x_fieldAddr, x_fieldV, ↓s_nilchk, x_nilchk, Nat.zero_add, Nat.add_zero, Nat.mul_one, ↓l_loop, ↓l_succ, ↓l_normal, l_normal, l_exit, l_ret, l_iteN, ↓h_put_get, ↓h_new_get, ↓h_del_get, h_next_put, h_next_new, h_next_del, Nat.add_assoc, Nat.add_eq_left, Nat.left_eq_add, Nat.add_left_cancel_iff, ↓s_load, m_load, ↓m_load1, m_load1, ↓m_st, m_stE, m_storeI, m_storeE, w_zero, w_succ, ↓s_alloc, ↓x_idxA, ↓x_idxS, x_idxAE, x_idxSE, x_addrE, x_idx, x_lenS, ↓s_len, ↓x_buildS, x_buildE, ↓x_P0, ↓x_P1, x_fill0, x_filli, x_fills, x_fillb, c_int, List.length_cons, List.length_nil, List.cons_append, List.drop_succ_cons, List.drop_zero, List.drop_nil, List.nil_append, Int.reduceAdd, Int.reduceToNat, Int.reduceLT, Int.reduceLE, Nat.reduceAdd, Nat.reduceMul, Nat.reduceLeDiff, Int.reduceEq, Int.reduceSub, Int.cast_ofNat_Int, s_resc, s_consR, m_load4, m_store4, s_res0, ↓s_skip, ↓s_ops, ↓s_dops, ↓s_seq, ↓s_cond, ↓s_block, ↓s_exit, ↓s_ret, ↓s_scope, ↓s_nil, ↓s_op, ↓s_opg, ↓s_wanted', ↓s_wantV, s_wantV, s_wantV0, beq_true, beq_false, ↓s_bindS, s_bindS, ↓s_bindE, s_bindE, s_bindE_ret, s_bindE_exit, s_bindE_iteN, s_norm, ↓s_condV, s_condV, s_block_ret, s_block_normal, s_block_exit, s_block_iteN, ↓s_getp, ↓s_getp0, ↓s_get, s_get0, ↓s_con, ↓s_fn, ↓s_os0, ↓s_os1, ↓s_list0, ↓s_list1, ↓s_mov, ↓s_pick, ↓s_pickE, s_pickE, ↓s_bin, ↓s_un, ↓s_minmax, ↓s_call, ↓s_callv, ↓s_callV, ↓s_ext, s_same, b_eql, b_neq, b_lss, b_leq, b_gtr, b_geq, b_add, b_sub, b_mul, b_eqlb, b_neqb, b_fnil, b_fnil', b_fnil2, b_fnil2', u_neg, u_not, m_two, s_end, s_end', s_end_iteN, s_res0, s_res1, s_tup1, s_tup2, ↓iteN_true, ↓iteN_false, iteN_true, iteN_false, Nat.zero_add, List.nil_append, List.append_nil, Nat.reduceEqDiff, reduceIte, decide_true, decide_false, Bool.not_true, Bool.not_false, List.getElem?_cons_zero, List.getElem?_cons_succ, Bool.false_eq_true, if_true, if_false, beq_self_eq_true]
  exact fin _ (by (simp only [s_getp, s_getp0, Nat.reduceEqDiff, decide_false, decide_true, iteN_false, iteN_true, hp]; try rfl))
end Go.Eng
