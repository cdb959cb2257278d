/- Calls of the library that a contract is known of: own work. -/
import Derived.Test.YtniiddgjepkmeaaEngH
import Derived.Shelf.Abstract
import Derived.Lib.Repeat
import Derived.Lib.Bytealg
import Derived.Below
import Derived.Lib.BytesEntry
set_option linter.unusedVariables false
set_option linter.unusedSimpArgs false
set_option linter.unusedSectionVars false
/-
  ENGINE, part 30a: functions from data to data, as known calls. Own work.
-/
namespace Go.Eng
open Go
/-- a function from data to data -/
def pureX (f : Nat) (s : List V → Option V) : Orc := fun t args h => match t with
  | .fn f' => match Nat.beq f' f with
    | true => (match s args with | some v => some (v, h) | none => none)
    | false => none
  | .yld _ => none
theorem pureX_ok {P : Program} {g : Gn} {Q : Orc} (hQ : QOk P g Q) {f : Nat} {s : List V → Option V} (hs : ∀ args v, s args = some v → datas args = true ∧ dataV v = true ∧ ∃ h1, Q (.fn f) args H.empty = some (v, h1)) : QOk P g (pureX f s) := by
  intro t args h v h1 hc
  unfold pureX at hc
  cases t with
  | yld l => cases hc
  | fn f' =>
    simp only at hc
    cases hb : Nat.beq f' f with
    | false => rw [hb] at hc; cases hc
    | true =>
      rw [hb] at hc
      obtain rfl := Nat.eq_of_beq_eq_true hb
      cases hl : s args with
      | none => simp only [hl] at hc; cases hc
      | some v' =>
        simp only [hl] at hc
        cases hc
        obtain ⟨d1, d2, h2, hq⟩ := hs args _ hl
        exact memo_ok hQ d1 d2 hq h
theorem pureX_yes {f : Nat} {s : List V → Option V} {args : List V} {v : V} (h : H) (e : s args = some v) : pureX f s (.fn f) args h = some (v, h) := by
  show (match Nat.beq f f with | true => (match s args with | some v => some (v, h) | none => none) | false => none) = _
  rw [show Nat.beq f f = true from Nat.beq_refl f, e]
theorem pureX_no {f f' : Nat} {s : List V → Option V} {args : List V} (h : H) (e : Nat.beq f' f = false) : pureX f s (.fn f') args h = none := by
  show (match Nat.beq f' f with | true => (match s args with | some v => some (v, h) | none => none) | false => none) = _
  rw [e]
theorem pureX_yld {f l : Nat} {s : List V → Option V} {args : List V} (h : H) : pureX f s (.yld l) args h = none := rfl
theorem orX_l {X Y : Orc} {t : Tgt} {args : List V} {h : H} {r : V × H} (e : X t args h = some r) : orX X Y t args h = some r := by unfold orX; rw [e]
theorem orX_r {X Y : Orc} {t : Tgt} {args : List V} {h : H} (e : X t args h = none) : orX X Y t args h = Y t args h := by unfold orX; rw [e]

theorem blt_dec' (x y : Nat) : Nat.blt x y = decide (x < y) := by
  by_cases h : x < y
  · rw [decide_eq_true h]; simpa using h
  · rw [decide_eq_false h]
    cases hb : Nat.blt x y with
    | false => rfl
    | true => exact absurd (by simpa using hb) h
end Go.Eng

/-
  ENGINE, part 30: calls of the library that a contract is known of. Own work.
-/
namespace Go.Eng
open Go Go.RowKit Go.Proofs

variable {P : Program}
abbrev g0 : Gn := ⟨id, id, fun _ _ h => h⟩

theorem sz_below {w w' : World} (hb : Below w.heap.size w w') : Sz.le (szOf w) (szOf w') := by
  intro b n h
  unfold szOf at *
  have hlt : b < w.heap.size := by
    rcases Nat.lt_or_ge b w.heap.size with h1 | h1
    · exact h1
    · rw [Array.getElem?_eq_none h1] at h; cases h
  rw [hb.block b hlt]; exact h
/-- what a contract says, as a call of the evaluator -/
theorem callOk_of_calls {f : Nat} (he : Enters P f) {args : List V} {h : H} {v : V}
    (hc : ∀ (μ : Mu) (w : World) (xs : Array Value), HR P g0 μ h w → VRs g0 μ (szOf w) args xs.toList → ∃ x, (∀ μ' sz', VR g0 μ' sz' v x) ∧ Calls P f xs w (fun e w' => e = .returned x ∧ Below w.heap.size w w')) : CallOk P g0 (.fn f) args h v h := by
  intro μ w hr xs hxs f' hf'
  have hf' : f' = f := hf'
  subst hf'
  obtain ⟨x, hx, hcs⟩ := hc μ w xs hr hxs
  refine ⟨he xs w, fun cs => ?_⟩
  obtain ⟨e, w1, fr, ⟨rfl, hb⟩, r1, r2, r3⟩ := hcs cs
  refine ⟨fr, μ, w1, x, r1, r2, r3, ⟨hr.fresh, fun i b hb' => ?_, hr.inj⟩, ⟨Mu.le_refl _, hb.size, sz_below hb, fun b hb' _ => hb.block b hb', fun i blk b base h1 h3 _ => ⟨i, blk, base, h1, id, h3⟩, Nat.le_refl _, ⟨hb.os, hb.output⟩, fun _ _ => rfl⟩, hx _ _⟩
  obtain ⟨a, base, hm, hbr⟩ := hr.blk i b hb'
  exact ⟨a, base, hm, hbr.mono (Mu.le_refl _) (sz_below hb) (hb.block a hbr.lt)⟩
theorem pureX_calls {f : Nat} (he : Enters P f) {s : List V → Option V} (hs : ∀ args v, s args = some v → dataV v = true ∧ ∀ (μ : Mu) (sz : Sz) (xs : Array Value), VRs g0 μ sz args xs.toList → ∃ x, (∀ μ' sz', VR g0 μ' sz' v x) ∧ ∀ w, Calls P f xs w (fun e w' => e = .returned x ∧ Below w.heap.size w w')) : QOk P g0 (pureX f s) := by
  intro t args h v h1 hc
  unfold pureX at hc
  cases t with
  | yld l => cases hc
  | fn f' =>
    simp only at hc
    cases hb : Nat.beq f' f with
    | false => rw [hb] at hc; cases hc
    | true =>
      rw [hb] at hc
      obtain rfl := Nat.eq_of_beq_eq_true hb
      cases hl : s args with
      | none => simp only [hl] at hc; cases hc
      | some v' =>
        simp only [hl] at hc
        cases hc
        obtain ⟨d2, hq⟩ := hs args _ hl
        exact callOk_of_calls he fun μ w xs _ hx => by
          obtain ⟨x, h1, h2⟩ := hq μ (szOf w) xs hx
          exact ⟨x, h1, h2 w⟩

/-! ### strings.Repeat -/
def repN (s : List Nat) : Nat → List Nat
  | 0 => []
  | c + 1 => s ++ repN s c
theorem repN_map (l : List UInt8) (c : Nat) : (Lib.repeatL l c).map (·.toNat) = repN (l.map (·.toNat)) c := by
  induction c with
  | zero => rfl
  | succ c ih => simp only [Lib.repeatL, repN, List.map_append, ih]
def repS : List V → Option V
  | [.str s, .int .i64 (.ofNat c)] => match Nat.ble (s.length * c) 4294967296 && Nat.ble c 4294967296 with
    | true => some (.str (repN s c))
    | false => none
  | _ => none
theorem repX_ok {f : Nat} (he : Enters P f) (hc : ∀ (s : ByteArray) (c : Nat) (w : World), c ≤ 9223372036854775807 → s.size * c ≤ 140737488355328 → Calls P f #[.string s, .int .i64 c] w fun e w' => e = .returned (.string ⟨(Lib.repeatL s.data.toList c).toArray⟩) ∧ Below w.heap.size w w') : QOk P g0 (pureX f repS) := by
  refine pureX_calls he fun args v hs => ?_
  unfold repS at hs
  split at hs
  · rename_i s c
    split at hs
    · rename_i hb
      simp only [Bool.and_eq_true] at hb
      have b1 := Nat.le_of_ble_eq_true hb.1
      have b2 := Nat.le_of_ble_eq_true hb.2
      cases hs
      refine ⟨rfl, fun μ sz xs hx => ?_⟩
      obtain ⟨xs⟩ := xs
      cases hx with
      | cons _ x1 _ m1 h1 h2 =>
        cases h2 with
        | cons _ x2 _ m2 h3 h4 =>
          cases h4
          cases h1 with
          | str _ bs hbs =>
            cases h3
            have hlen : bs.size = s.length := by rw [← hbs, List.length_map, Array.length_toList]; rfl
            refine ⟨_, fun μ' sz' => ?_, fun w => hc bs c w (by omega) (by rw [hlen]; omega)⟩
            refine .str _ _ ?_
            rw [← hbs]
            simpa using repN_map bs.data.toList c
    · cases hs
  · cases hs

/-! ### comparisons -/
def cmpN : List Nat → List Nat → Int
  | [], [] => 0
  | [], _ :: _ => -1
  | _ :: _, [] => 1
  | a :: x, b :: y => match Nat.blt a b with
    | true => -1
    | false => match Nat.blt b a with
      | true => 1
      | false => cmpN x y
theorem cmpN_map : ∀ (a b : List UInt8), cmpN (a.map (·.toNat)) (b.map (·.toNat)) = Lib.compareBytes a b := by
  intro a
  induction a with
  | nil => intro b; cases b <;> rfl
  | cons x a ih =>
    intro b
    cases b with
    | nil => rfl
    | cons y b =>
      simp only [List.map_cons, cmpN, Lib.compareBytes]
      rw [blt_dec', blt_dec']
      by_cases h1 : x < y
      · have : x.toNat < y.toNat := h1
        simp [h1, this]
      · have n1 : ¬ x.toNat < y.toNat := h1
        by_cases h2 : y < x
        · have : y.toNat < x.toNat := h2
          simp [h1, h2, n1, this]
        · have n2 : ¬ y.toNat < x.toNat := h2
          simp [h1, h2, n1, n2, ih]
def cmpS : List V → Option V
  | [.str a, .str b] => some (.int .i64 (cmpN a b))
  | _ => none
theorem cmpX_ok {f : Nat} (he : Enters P f) (hc : ∀ (a b : ByteArray) (w : World), Calls P f #[.string a, .string b] w fun e w' => e = .returned (.int .i64 (Lib.compareBytes a.data.toList b.data.toList)) ∧ w' = w) : QOk P g0 (pureX f cmpS) := by
  refine pureX_calls he fun args v hs => ?_
  unfold cmpS at hs
  split at hs
  · rename_i s c
    cases hs
    refine ⟨rfl, fun μ sz xs hx => ?_⟩
    obtain ⟨xs⟩ := xs
    cases hx with
    | cons _ x1 _ m1 h1 h2 =>
      cases h2 with
      | cons _ x2 _ m2 h3 h4 =>
        cases h4
        cases h1 with
        | str _ bs hbs =>
          cases h3 with
          | str _ bs' hbs' =>
            refine ⟨.int .i64 (cmpN s c), fun μ' sz' => .int _ _, fun w => (hc bs bs' w).mono fun e w' => ?_⟩
            rintro ⟨rfl, rfl⟩
            exact ⟨by rw [← hbs, ← hbs', cmpN_map], Below.refl _ _⟩
  · cases hs
end Go.Eng

/-
  ENGINE, part 31: bytes.Compare, by a contract. Own work.
-/
namespace Go.Eng
open Go Go.RowKit Go.Proofs
variable {P : Program}
/-- two byte strings in memory are compared -/
noncomputable def bcmpX (f : Nat) : Orc := fun t args h => match t with
  | .fn f' => match Nat.beq f' f with
    | true => match args with
      | [x, y] => match b2sV h x with
        | some (.str a) => match b2sV h y with
          | some (.str b) => some (.int .i64 (cmpN a b), h)
          | _ => none
        | _ => none
      | _ => none
    | false => none
  | .yld _ => none
theorem bytesOf_ints : ∀ (l : List V) (s : List Nat), Eng.bytesOf l = some s → ∃ xs : List Int, l = xs.map (fun n => V.int .u8 n) ∧ (∀ n ∈ xs, 0 ≤ n) ∧ (Lib.bytesOf xs).map (·.toNat) = s := by
  intro l
  induction l with
  | nil => intro s h; cases h; exact ⟨[], rfl, by simp, rfl⟩
  | cons v r ih =>
    intro s h
    unfold Eng.bytesOf at h
    split at h
    · cases ‹_ :: _ = []›
    · rename_i n r' heq
      cases heq
      cases hr : Eng.bytesOf r with
      | none => simp only [hr] at h; cases h
      | some s' =>
        simp only [hr] at h
        cases h
        obtain ⟨xs, e1, e2, e3⟩ := ih s' hr
        refine ⟨(n : Int) :: xs, by rw [e1]; rfl, ?_, ?_⟩
        · intro m hm
          rcases List.mem_cons.1 hm with rfl | hm
          · omega
          · exact e2 m hm
        · simp only [Lib.bytesOf, List.map_cons] at e3 ⊢
          rw [e3]
          congr 1
    · cases h
theorem slice_bytes {h : H} {μ : Mu} {w : World} (hr : HR P g0 μ h w) {x : V} {xv : Value} (hx : VR g0 μ (szOf w) x xv) {s : List Nat} (hb : b2sV h x = some (.str s)) : ∃ bs : ByteArray, (Extern.Bytes.bytesOf xv).run P w = .ok bs w ∧ bs.data.toList.map (·.toNat) = s := by
  cases x <;> (try (cases hb; done))
  rename_i ad len cap esz
  cases ad with
  | none =>
    cases hb
    cases hx
    exact ⟨.empty, rfl, rfl⟩
  | some p =>
    obtain ⟨i, off⟩ := p
    simp only [b2sV] at hb
    cases len with
    | zero =>
      cases hb
      cases hx with
      | slc => exact ⟨.empty, rfl, rfl⟩
      | slc0 => exact ⟨.empty, rfl, rfl⟩
    | succ len =>
      simp only at hb
      cases hca : cellsAt h i with
      | none => rw [hca] at hb; cases hb
      | some vs =>
        rw [hca] at hb
        simp only at hb
        cases hrd : readN vs off (len + 1) with
        | none => rw [hrd] at hb; cases hb
        | some l =>
          rw [hrd] at hb
          simp only at hb
          cases hby : Eng.bytesOf l with
          | none => rw [hby] at hb; cases hb
          | some s' =>
            rw [hby] at hb
            have hss : s' = s := by simpa [strO] using hb
            subst hss
            obtain ⟨xs, e1, _, e3⟩ := bytesOf_ints l s' hby
            unfold cellsAt at hca
            cases hg : h.get i with
            | none => rw [hg] at hca; cases hca
            | some blk =>
              rw [hg] at hca
              cases blk with
              | loop => cases hca
              | defers => cases hca
              | cells vs' m =>
                cases hca
                obtain ⟨b, base, hm, c, e, fz, h1, h2, h3, _, _⟩ := hr.blk i _ hg
                obtain ⟨t1, t2⟩ := takeN_some hrd
                rw [List.length_drop] at t2
                cases hx with
                | slc _ _ _ _ _ b' base' cap' n hm' hs hn hl hc =>
                  rw [hm] at hm'
                  cases hm'
                  have hlen : xs.length = len + 1 := by
                    have := congrArg List.length t1
                    rw [e1, List.length_map, List.length_take, List.length_drop] at this
                    omega
                  have hcell : ∀ j y, xs[j]? = some y → w.cell? ((⟨b, base + off, none⟩ : Addr).add j) = some (.int .u8 y) := by
                    intro j y hj
                    have ea : (⟨b, base + off, none⟩ : Addr).add j = ⟨b, base + off + j, none⟩ := by unfold Addr.add; split <;> simp_all
                    have hjl : j < xs.length := (List.getElem?_eq_some_iff.1 hj).1
                    have hv : vs[off + j]? = some (.int .u8 y) := by
                      have hl' : l[j]? = some (V.int .u8 y) := by rw [e1, List.getElem?_map, hj]; rfl
                      rw [t1, List.getElem?_take, if_pos (by omega), List.getElem?_drop] at hl'
                      exact hl'
                    obtain ⟨z, hz, hzr⟩ := h3 _ _ hv
                    cases hzr
                    rw [ea]
                    simp only [World.cell?, h1]
                    rw [show base + off + j = base + (off + j) from by omega]
                    exact hz
                  have run := Lib.run_loadBytesX (P := P) w xs ⟨b, base + off, none⟩ .empty hcell
                  refine ⟨⟨ByteArray.empty.data ++ (Lib.bytesOf xs).toArray⟩, ?_, ?_⟩
                  · show (Extern.Bytes.loadBytes ⟨b, base + off, none⟩ (len + 1) .empty).run P w = _
                    rw [← hlen]; exact run
                  · rw [← e3]; simp
theorem bcmpX_ok {f : Nat} (he : Enters P f) (hc : ∀ (v1 v2 : Value) (a b : ByteArray) (w : World), (Extern.Bytes.bytesOf v1).run P w = .ok a w → (Extern.Bytes.bytesOf v2).run P w = .ok b w → Calls P f #[v1, v2] w fun e w' => e = .returned (.int .i64 (Lib.compareBytes a.data.toList b.data.toList)) ∧ w' = w) : QOk P g0 (bcmpX f) := by
  intro t args h v h1 hcc
  unfold bcmpX at hcc
  cases t with
  | yld l => cases hcc
  | fn f' =>
    simp only at hcc
    cases hb : Nat.beq f' f with
    | false => rw [hb] at hcc; cases hcc
    | true =>
      rw [hb] at hcc
      obtain rfl := Nat.eq_of_beq_eq_true hb
      split at hcc <;> (try (cases ‹true = false›; done))
      split at hcc
      · rename_i x y
        split at hcc
        · rename_i a ha
          split at hcc
          · rename_i b hbb
            cases hcc
            refine callOk_of_calls he fun μ w xs hr hx => ?_
            obtain ⟨xs⟩ := xs
            cases hx with
            | cons _ x1 _ m1 q1 q2 =>
              cases q2 with
              | cons _ x2 _ m2 q3 q4 =>
                cases q4
                obtain ⟨b1, r1, s1⟩ := slice_bytes hr q1 ha
                obtain ⟨b2, r2, s2⟩ := slice_bytes hr q3 hbb
                refine ⟨.int .i64 (cmpN a b), fun _ _ => .int _ _, (hc x1 x2 b1 b2 w r1 r2).mono fun e w' => ?_⟩
                rintro ⟨rfl, rfl⟩
                exact ⟨by rw [← s1, ← s2, cmpN_map], Below.refl _ _⟩
          · cases hcc
        · cases hcc
      · cases hcc
end Go.Eng
