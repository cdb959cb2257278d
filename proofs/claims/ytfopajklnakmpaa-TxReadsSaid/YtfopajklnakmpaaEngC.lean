/- The evaluator by which closed calls are run, part C: own work.
-/
import Derived.Test.YtfopajklnakmpaaEngB
import Derived.Laws.Externs
set_option linter.unusedVariables false
set_option linter.unusedSimpArgs false
set_option linter.unusedSectionVars false
/-
  ENGINE, part 10: every operation of class 0. Own work.
-/
namespace Go.Eng
open Go

variable {P : Program} {g : Gn} {μ : Mu} {sz : Sz} {w : World}

theorem args0 {c : Call} {x : Operand} {ρ : Operand → Value} (h : c.args[0]? = some x) : (c.args.map ρ)[0]? = some (ρ x) := by simp [h]
theorem args1 {c : Call} {x : Operand} {ρ : Operand → Value} (h : c.args[1]? = some x) : (c.args.map ρ)[1]? = some (ρ x) := by simp [h]
theorem field_get {fs : Array Field} {i : Nat} {f : Field} (h : fs[i]? = some f) : fs[i]? = some f := h

theorem exec_builtin (ρ : Operand → Value) {o : Oper} {c : Call} {b : Builtin} (ho : o.op = .call c) (hb : c.callee = .builtin b) :
    ∃ cs, execOp ρ o = builtin b c.argTypes o.type cs (c.args.map ρ) := by
  refine ⟨c.args.map fun | .const _ => true | _ => false, ?_⟩
  simp only [execOp, ho, resolve, hb, pure_bind, invoke]
  rfl

theorem s2a_ok {n : Nat} {t e : TypeId} (hu : P.underlying t = some (.array n e)) {a v : V} {x : Value} (hx : VR g μ sz a x) (h : s2aV n a = some v) : Gives P g μ sz w (Instr.arrayAt t x) v := by
  cases a <;> (try (cases h; done))
  rename_i p len cap esz
  cases p with
  | none => cases h
  | some p =>
    cases n with
    | zero => cases h
    | succ m =>
      simp only [s2aV] at h
      cases hb : Nat.ble (m + 1) len with
      | false => rw [hb] at h; cases h
      | true =>
        rw [hb] at h; cases h
        have hle := Nat.le_of_ble_eq_true hb
        cases hx with
        | slc i o len cap esz b base cap' n hm hs hn hl hc =>
          refine ⟨.pointer (some ⟨b, base + o, none⟩), ?_, .ptr _ _ _ _ hm⟩
          have : ¬ len < m + 1 := by omega
          simp [Instr.arrayAt, run_und hu, this]
        | slc0 => omega

theorem natU_some {a : V} {n : Nat} (h : natU a = some n) {x : Value} (hx : VR g μ sz a x) : x = .int .u64 (n : Int) := by
  unfold natU at h
  split at h
  · cases h; cases hx; rfl
  · cases h

theorem find_add64 {fn : Func} (hn : fn.name = "math/bits.Add64") : Extern.find fn = some add64Entry := by
  unfold Extern.find
  simp only [hn]
  have h1 : Extern.allGenericRows.lookup "math/bits.Add64" = none := by kernel_rfl
  have h2 : Extern.allTypedRows.lookup "math/bits.Add64" = none := by kernel_rfl
  have h3 : Extern.allRows.lookup "math/bits.Add64" = some add64Entry := by kernel_rfl
  rw [h1, h2, h3]
  rfl
def sub64E : Array Value → Sem Value := fun args => do
  let (x, y, b) ← Extern.MathBitsCarry.three "Sub64" args
  pure (Extern.MathBitsCarry.pair ((x + Extern.MathBitsCarry.m64 - y - b) % Extern.MathBitsCarry.m64) (if x < y + b then 1 else 0))
theorem find_sub64 {fn : Func} (hn : fn.name = "math/bits.Sub64") : Extern.find fn = some sub64E := by
  unfold Extern.find
  simp only [hn]
  have h1 : Extern.allGenericRows.lookup "math/bits.Sub64" = none := by kernel_rfl
  have h2 : Extern.allTypedRows.lookup "math/bits.Sub64" = none := by kernel_rfl
  have h3 : Extern.allRows.lookup "math/bits.Sub64" = some sub64E := by kernel_rfl
  rw [h1, h2, h3]
  rfl

theorem findNext_bits {n : String} (hn : n = "math/bits.Add64" ∨ n = "math/bits.Sub64") {fn : Func} (h : fn.name = n) (ho : fn.origin = "") : Extern.findNext fn = none := by
  unfold Extern.findNext
  simp only [h, ho]
  have h2 : Extern.allNextRows.lookup "" = none := by kernel_rfl
  rw [h2]
  rcases hn with rfl | rfl
  · have h1 : Extern.allNextRows.lookup "math/bits.Add64" = none := by kernel_rfl
    rw [h1]
    rfl
  · have h1 : Extern.allNextRows.lookup "math/bits.Sub64" = none := by kernel_rfl
    rw [h1]
    rfl

theorem bitsOp_some {f : Nat} {sub : Bool} (h : bitsOp P f = some sub) : ∃ fn, P.funcs[f]? = some fn ∧ fn.body.isNone = true ∧ fn.origin = "" ∧ fn.name = (if sub then "math/bits.Sub64" else "math/bits.Add64") := by
  unfold bitsOp at h
  cases hf : P.funcs[f]? with
  | none => rw [hf] at h; cases h
  | some fn =>
    rw [hf] at h
    simp only at h
    cases hb : fn.body with
    | some b => rw [hb] at h; cases h
    | none =>
      rw [hb] at h
      simp only [Bool.and_eq_true, beq_iff_eq] at h
      split at h
      · rename_i hc; cases h; exact ⟨fn, rfl, by rw [hb]; rfl, hc.1, by rw [hc.2]; rfl⟩
      · split at h
        · rename_i hc; cases h; exact ⟨fn, rfl, by rw [hb]; rfl, hc.1, by rw [hc.2]; rfl⟩
        · cases h

theorem run_sub64E (x y b : Nat) (hb : b ≤ 1) (w : World) : (sub64E #[.int .u64 x, .int .u64 y, .int .u64 b]).run P w =
    .ok (.tuple #[.int .u64 (((x + 18446744073709551616 - y - b) % 18446744073709551616 : Nat) : Int), .int .u64 ((if x < y + b then 1 else 0 : Nat) : Int)]) w := by
  have : b = 0 ∨ b = 1 := by omega
  rcases this with rfl | rfl <;> rfl

theorem bits_ok {T : Tr V} {ρ : Operand → Value} (hO : OR g μ sz T ρ) {o : Oper} {c : Call} (ho : o.op = .call c) {f : Nat} (hcal : c.callee = .value (.func f)) {sub : Bool} (hbo : bitsOp P f = some sub) {x y z : Operand} (hargs : c.args.toList = [x, y, z])
    {a1 a2 a3 : V} (hx : VR g μ sz a1 (ρ x)) (hy : VR g μ sz a2 (ρ y)) (hz : VR g μ sz a3 (ρ z)) {v : V} (hv : bitsV sub a1 a2 a3 = some v) : GivesN P g μ sz w (execOp ρ o) v := by
  unfold bitsV at hv
  cases h1 : natU a1 with
  | none => rw [h1] at hv; cases hv
  | some n1 =>
  cases h2 : natU a2 with
  | none => rw [h1, h2] at hv; cases hv
  | some n2 =>
  cases h3 : natU a3 with
  | none => rw [h1, h2, h3] at hv; cases hv
  | some n3 =>
  rw [h1, h2, h3] at hv
  simp only at hv
  cases hb : Nat.ble n3 1 with
  | false => rw [hb] at hv; cases hv
  | true =>
  rw [hb] at hv
  cases hv
  have hle := Nat.le_of_ble_eq_true hb
  have e1 := natU_some h1 hx
  have e2 := natU_some h2 hy
  have e3 := natU_some h3 hz
  have hmap : c.args.map ρ = #[.int .u64 n1, .int .u64 n2, .int .u64 n3] := by
    rw [← Array.toList_inj, Array.toList_map, hargs]
    simp [e1, e2, e3]
  have hfv : ρ (.func f) = .func (.func f) #[] #[] := by
    have hvf := hO (.func f) (.f (g.f f)) rfl
    simp only [evO] at hvf
    generalize ρ (.func f) = q at hvf
    cases hvf with
    | fn _ f' first caps first' caps' hg hv1 hv2 =>
      have := g.finj _ _ hg
      subst this
      have k1 : first' = #[] := by rw [← Array.toList_inj]; cases hv1' : first'.toList with
        | nil => rfl
        | cons _ _ => rw [hv1'] at hv1; cases hv1
      have k2 : caps' = #[] := by rw [← Array.toList_inj]; cases hv2' : caps'.toList with
        | nil => rfl
        | cons _ _ => rw [hv2'] at hv2; cases hv2
      rw [k1, k2]
  obtain ⟨fn, q1, q2, q3, q4⟩ := bitsOp_some hbo
  have hex : (execOp ρ o).run P w = (callFunc f #[.int .u64 n1, .int .u64 n2, .int .u64 n3]).run P w := by
    simp only [execOp, ho, resolve, hcal, hfv, hmap]
    simp [Deferred.ofValue, invoke]
  have hNum : (fn.name == "runtime.NumGoroutine") = false := by rw [q4]; cases sub <;> rfl
  cases sub with
  | false =>
    rw [GivesN]
    rw [hex, run_callFunc_extern q1 hNum q2 (findNext_bits (.inl rfl) q4 q3) (find_add64 q4), run_add64 n1 n2 n3 (by omega) (by omega) (by omega) (by omega)]
    refine ⟨_, rfl, .tup _ _ (.cons _ _ _ _ ?_ (.cons _ _ _ _ ?_ .nil))⟩
    · have : ((n1 : Int) + n2 + n3) % 18446744073709551616 = Int.ofNat ((n1 + n2 + n3) % 18446744073709551616) := by simp
      rw [this]; exact .int _ _
    · have : ((n1 : Int) + n2 + n3) / 18446744073709551616 = Int.ofNat ((n1 + n2 + n3) / 18446744073709551616) := by simp
      rw [this]; exact .int _ _
  | true =>
    rw [GivesN]
    rw [hex, run_callFunc_extern q1 hNum q2 (findNext_bits (.inr rfl) q4 q3) (find_sub64 q4), run_sub64E n1 n2 n3 hle]
    refine ⟨_, rfl, .tup _ _ (.cons _ _ _ _ (.int _ _) (.cons _ _ _ _ ?_ .nil))⟩
    have : (if n1 < n2 + n3 then 1 else 0 : Nat) = (bif Nat.blt n1 (n2 + n3) then 1 else 0) := by
      by_cases hlt : n1 < n2 + n3
      · have : Nat.blt n1 (n2 + n3) = true := by simpa using hlt
        simp [hlt, this]
      · have : Nat.blt n1 (n2 + n3) = false := by
          cases hb2 : Nat.blt n1 (n2 + n3) with
          | false => rfl
          | true => exact absurd (by simpa using hb2) hlt
        simp [hlt, this]
    rw [this]; exact .int _ _

theorem pure_ok {T : Tr V} {ρ : Operand → Value} (hO : OR g μ sz T ρ) {o : Oper} {a : A} (h : trA P g.f o = some a) (hc : clsA a = 0) {Q : Orc} {h0 h1 : H} {v : V} (hs : step a Q T h0 = some (v, h1)) :
    h1 = h0 ∧ GivesN P g μ sz w (execOp ρ o) v := by
  cases ho : o.op
  case build t ps =>
    obtain ⟨e1, e2⟩ := build_ok (w := w) hO ho h hs
    refine ⟨e1, ?_⟩
    have := e2.next
    simpa only [execOp, ho] using this
  all_goals unfold trA at h; rw [ho] at h
  all_goals try (simp only [Option.bind_eq_bind, Option.bind_eq_some_iff, Option.pure_def, Option.some.injEq] at h)
  case move x =>
    obtain ⟨y, hy, rfl⟩ := h
    cases hs
    exact ⟨rfl, ρ x, by simp [execOp, ho], hO _ _ hy⟩
  case assign x =>
    obtain ⟨y, hy, rfl⟩ := h
    cases hs
    exact ⟨rfl, ρ x, by simp [execOp, ho], hO _ _ hy⟩
  case pick c x y =>
    obtain ⟨c', hc', x', hx, y', hy, rfl⟩ := h
    have hcv := hO _ _ hc'
    change o_pick c' x' y' Q T h0 = _ at hs
    unfold o_pick at hs
    split at hs <;> cases hs
    · rename_i e; rw [e] at hcv
      have : ρ c = .bool true := by generalize ρ c = z at hcv; cases hcv; rfl
      exact ⟨rfl, ρ x, by simp [execOp, ho, this, asBool], hO _ _ hx⟩
    · rename_i e; rw [e] at hcv
      have : ρ c = .bool false := by generalize ρ c = z at hcv; cases hcv; rfl
      exact ⟨rfl, ρ y, by simp [execOp, ho, this, asBool], hO _ _ hy⟩
  case nilCheck x =>
    obtain ⟨x', hx, rfl⟩ := h
    obtain ⟨e1, e2⟩ := same_some hs
    have hv := hO _ _ hx
    obtain ⟨rfl, hn⟩ := nilchk_ok e1 hv
    refine ⟨e2, ρ x, ?_, hv⟩
    simp only [execOp, ho]
    revert hn hv
    generalize ρ x = z
    generalize evO T x' = u
    intro hv hn
    cases hv <;> first | rfl | exact hn.elim
  case binOp op t x y ty =>
    have key : ∃ e x' y', (op = .eql ∨ op = .neq → eqK P t = some e) ∧ oOf g.f x = some x' ∧ oOf g.f y = some y' ∧ a = .bin op e x' y' := by
      cases op <;> simp only [Option.bind_eq_bind, Option.bind_eq_some_iff, Option.pure_def, Option.some.injEq] at h
      case eql => obtain ⟨e, he, x', hx, y', hy, rfl⟩ := h; exact ⟨e, x', y', fun _ => he, hx, hy, rfl⟩
      case neq => obtain ⟨e, he, x', hx, y', hy, rfl⟩ := h; exact ⟨e, x', y', fun _ => he, hx, hy, rfl⟩
      all_goals obtain ⟨x', hx, y', hy, rfl⟩ := h; exact ⟨.no, x', y', (fun hh => by rcases hh with hh | hh <;> cases hh), hx, hy, rfl⟩
    obtain ⟨e, x', y', he, hx, hy, rfl⟩ := key
    obtain ⟨e1, e2⟩ := same_some hs
    refine ⟨e2, ?_⟩
    have hr : e ≠ .ref .p := by rintro rfl; cases hc
    have := (bin_ok (w := w) (X := x) (Y := y) (fun hop r hq => eqlV_ok (he hop) hr (hO _ _ hx) (hO _ _ hy) hq) (hO _ _ hx) (hO _ _ hy) e1).next
    simpa only [execOp, ho] using this
  case unOp op t x =>
    obtain ⟨x', hx, rfl⟩ := h
    obtain ⟨e1, e2⟩ := same_some hs
    refine ⟨e2, ?_⟩
    have hv := hO _ _ hx
    have : Gives P g μ sz w (Op.unary op (ρ x)) v := by
      generalize evO T x' = u at hv e1
      generalize ρ x = z at hv
      cases op <;> cases hv <;> simp only [unV] at e1 <;> (try (cases e1; done))
      case neg.int k n => cases e1; exact ⟨.int k (k.wrap (0 - n)), by simp [Op.unary, Op.intArith], by rw [wr_eq]; exact .int _ _⟩
      case xor.int k n =>
        cases e1
        refine ⟨.int k (k.wrap (BitVec.ofInt k.bits (if k.signed then -1 else k.max) ^^^ BitVec.ofInt k.bits n).toNat), by simp [Op.unary, Op.intBits], ?_⟩
        have hall : BitVec.ofInt k.bits (if k.signed then -1 else k.max) = BitVec.allOnes k.bits := by cases k <;> rfl
        rw [hall, BitVec.allOnes_xor, BitVec.toNat_not, toNat_ofInt, ← two_eq]
        rw [asK_eq k _ (by have := two_pos k; omega)]
        exact .int _ _
      case not.bool b => cases e1; exact ⟨.bool !b, rfl, .bool _⟩
    have := this.next
    simpa only [execOp, ho] using this
  case convert s d x =>
    have hv := hO x
    cases hus : P.underlying s with
    | none => rw [hus] at h; cases h
    | some us =>
      cases hud : P.underlying d with
      | none => rw [hus, hud] at h; cases us <;> cases h
      | some ud =>
        rw [hus, hud] at h
        cases us <;> cases ud <;> simp only [reduceCtorEq, Option.bind_eq_some_iff, Option.some.injEq] at h <;> (try (exact h.elim))
        case int.int ks k =>
          obtain ⟨x', hx, rfl⟩ := h
          obtain ⟨e1, e2⟩ := same_some hs
          refine ⟨e2, ?_⟩
          have hv := hO _ _ hx
          have : Gives P g μ sz w (convert s d (ρ x)) v := by
            generalize evO T x' = u at hv e1
            generalize ρ x = z at hv
            cases hv <;> simp only [convV] at e1 <;> (try (cases e1; done))
            cases e1
            exact ⟨_, run_convert_int hus hud, by rw [wr_eq]; exact .int _ _⟩
          have := this.next
          simpa only [execOp, ho] using this
        case string.string =>
          obtain ⟨x', hx, rfl⟩ := h
          obtain ⟨e1, e2⟩ := same_some hs
          refine ⟨e2, ?_⟩
          have hv := hO _ _ hx
          have : Gives P g μ sz w (convert s d (ρ x)) v := by
            generalize evO T x' = u at hv e1
            generalize ρ x = z at hv
            cases hv <;> simp only [sidV] at e1 <;> (try (cases e1; done))
            rename_i hb
            cases e1
            exact ⟨_, by simp [convert, run_und hus, run_und hud], .str _ _ hb⟩
          have := this.next
          simpa only [execOp, ho] using this
        case string.slice e =>
          split at h <;> simp only [reduceCtorEq, Option.bind_eq_some_iff, Option.some.injEq] at h
          obtain ⟨x', hx, rfl⟩ := h
          cases hc
        case slice.string e =>
          split at h <;> simp only [reduceCtorEq, Option.bind_eq_some_iff, Option.some.injEq] at h
          obtain ⟨x', hx, rfl⟩ := h
          cases hc
        case slice.slice e e' =>
          split at h <;> simp only [reduceCtorEq, Option.bind_eq_some_iff, Option.some.injEq] at h
          obtain ⟨x', hx, rfl⟩ := h
          cases hc
  case makeFunc fn first caps =>
    cases fn <;> simp only [reduceCtorEq, Option.bind_eq_some_iff, Option.some.injEq] at h
    obtain ⟨f', hf, c', hc', rfl⟩ := h
    cases hs
    refine ⟨rfl, _, by simp [execOp, ho, Instr.makeFunc]; rfl, ?_⟩
    refine .fn _ _ _ _ _ _ rfl ?_ ?_
    · rw [Array.toList_map]; exact hO.list _ _ hf
    · rw [Array.toList_map]; exact hO.list _ _ hc'
  case slice t x lo hi mx =>
    cases hu : P.underlying t with
    | none => rw [hu] at h; cases h
    | some d =>
      rw [hu] at h
      cases d <;> simp only [reduceCtorEq, Option.bind_eq_some_iff, Option.some.injEq] at h <;> (try (exact h.elim))
      case string =>
        split at h <;> simp only [reduceCtorEq, Option.bind_eq_some_iff, Option.some.injEq] at h
        rename_i hmx
        obtain ⟨x', hx, lo', hlo, hi', hhi, rfl⟩ := h
        have hmx' : mx = none := by simpa using hmx
        subst hmx'
        have hv := hO _ _ hx
        have hl := opt_list hO hlo
        have hh := opt_list hO hhi
        change o_slcStr x' lo' hi' Q T h0 = _ at hs
        unfold o_slcStr at hs
        have hstr : ∃ (s : List Nat) (bs : ByteArray), evO T x' = .str s ∧ ρ x = .string bs ∧ bs.data.toList.map (·.toNat) = s := by
          generalize evO T x' = u at hv hs
          generalize ρ x = z at hv
          cases hv <;> (try (cases hs; done))
          exact ⟨_, _, rfl, rfl, by assumption⟩
        obtain ⟨s, bs, e1, e2, e3⟩ := hstr
        rw [e1] at hs
        simp only at hs
        have hlen : s.length = bs.size := by rw [← e3, List.length_map]; exact Array.length_toList
        cases hb : bnd (evM T hi') s.length s.length with
        | none => rw [hb] at hs; cases hs
        | some b =>
          rw [hb] at hs
          simp only at hs
          cases hl0 : bnd (evM T lo') 0 b with
          | none => rw [hl0] at hs; cases hs
          | some l =>
            rw [hl0] at hs
            cases hs
            refine ⟨rfl, .string (bs.extract l b), ?_, .str _ _ ?_⟩
            · have hb' := bnd_ok (P := P) (w := w) hh.1 hh.2 hb bs.size (by omega) .sliceAlen
              have hl' := bnd_ok (P := P) (w := w) hl.1 hl.2 hl0 b (Nat.le_refl _) .sliceB
              have hrun : (Instr.sliceBounds false bs.size bs.size (lo.map ρ) (hi.map ρ) none).run P w = .ok (l, b, bs.size) w := by
                rcases hb' with ⟨_, h2, h3⟩ | ⟨y, h2, hy, _⟩ <;> rcases hl' with ⟨_, h4, h5⟩ | ⟨z, h4, hz, _⟩ <;> rw [h2, h4]
                · subst h3; subst h5; simp [Instr.sliceBounds, hlen]
                · subst h3; simp only [hlen] at hz; simp [Instr.sliceBounds, hlen, hz]
                · subst h5; simp [Instr.sliceBounds, hy]
                · simp [Instr.sliceBounds, hy, hz]
              simp only [execOp, ho, Instr.sliceAt, Instr.slice, e2]
              simp [run_und hu, hrun]
            · rw [← e3, ByteArray.data_extract, Array.toList_extract, List.extract_eq_take_drop, List.map_take, List.map_drop]
      case slice e =>
        obtain ⟨n, hn, x', hx, lo', hlo, hi', hhi, mx', hmx, rfl⟩ := h
        obtain ⟨e1, e2⟩ := same_some hs
        refine ⟨e2, ?_⟩
        have := (slc_ok (w := w) e1 (hO _ _ hx) (opt_list hO hlo) (opt_list hO hhi) (opt_list hO hmx) hu hn).next
        simpa only [execOp, ho] using this
      case array n e =>
        obtain ⟨m, hm, x', hx, lo', hlo, hi', hhi, mx', hmx, rfl⟩ := h
        cases hc
  case fieldAddr s x f =>
    cases hu : P.underlying s with
    | none => rw [hu] at h; cases h
    | some d =>
      rw [hu] at h
      cases d <;> simp only [reduceCtorEq, Option.bind_eq_some_iff, Option.some.injEq] at h <;> (try (exact h.elim))
      obtain ⟨fd, hfd, n, hn, h⟩ := h
      split at h
      · cases h
      · rename_i hne
        simp only [Option.bind_eq_some_iff, Option.some.injEq] at h
        obtain ⟨x', hx, rfl⟩ := h
        obtain ⟨e1, e2⟩ := same_some hs
        refine ⟨e2, ?_⟩
        have hv := hO _ _ hx
        have : Gives P g μ sz w (Instr.fieldAt s (ρ x) f) v := by
          generalize evO T x' = u at hv e1
          generalize ρ x = z at hv
          cases hv <;> simp only [fieldV] at e1 <;> (try (cases e1; done))
          rename_i i o b base hm
          cases e1
          refine ⟨.pointer (some ⟨b, base + (o + fd.offset), none⟩), ?_, .ptr _ _ _ _ hm⟩
          have hadd : (⟨b, base + o, none⟩ : Addr).add fd.offset = ⟨b, base + (o + fd.offset), none⟩ := by
            unfold Addr.add; split
            · rename_i hz; rw [hz]; simp
            · simp [Nat.add_assoc]
          simp [Instr.fieldAt, run_und hu, hfd, Instr.sureAddr, fieldPlace, run_szT hn, hne, hadd]
        have := this.next
        simpa only [execOp, ho] using this
  case field s x f =>
    cases hu : P.underlying s with
    | none => rw [hu] at h; cases h
    | some d =>
      rw [hu] at h
      cases d <;> simp only [reduceCtorEq, Option.bind_eq_some_iff, Option.some.injEq] at h <;> (try (exact h.elim))
      obtain ⟨fd, hfd, n, hn, x', hx, rfl⟩ := h
      have hv := hO _ _ hx
      change o_fld fd.offset n x' Q T h0 = _ at hs
      unfold o_fld at hs
      have key : h1 = h0 ∧ Gives P g μ sz w (Instr.field s (ρ x) f) v := by
        generalize evO T x' = u at hv hs
        generalize ρ x = z at hv
        cases hv <;> (try (cases hs; done))
        rename_i cs cs' hcs
        obtain ⟨e1, e2⟩ := same_some hs
        obtain ⟨y, hy, hyr⟩ := part_ok (w := w) hn hcs e1
        exact ⟨e2, y, by simp [Instr.field, run_und hu, hfd, asAgg, hy], hyr⟩
      refine ⟨key.1, ?_⟩
      have := key.2.next
      simpa only [execOp, ho] using this
  case indexAddr t x i =>
    cases hu : P.underlying t with
    | none => rw [hu] at h; cases h
    | some d =>
      rw [hu] at h
      cases d <;> simp only [reduceCtorEq, Option.bind_eq_some_iff, Option.some.injEq] at h <;> (try (exact h.elim))
      case array n e =>
        obtain ⟨m, hm, x', hx, i', hi, rfl⟩ := h
        have hv := hO _ _ hx
        have hvi := hO _ _ hi
        change o_idxAddrA n m x' i' Q T h0 = _ at hs
        unfold o_idxAddrA at hs
        have key : h1 = h0 ∧ Gives P g μ sz w (Instr.indexAt t (ρ x) (ρ i)) v := by
          generalize evO T x' = u at hv hs
          generalize ρ x = z at hv
          generalize evO T i' = ui at hvi hs
          generalize ρ i = zi at hvi
          cases hv <;> (try (cases hs; done))
          rename_i bi o b base hmu
          cases hvi <;> (try (cases hs; done))
          rename_i k j
          dsimp only at hs
          cases hidx : idx j n with
          | none => rw [hidx] at hs; cases hs
          | some r =>
            rw [hidx] at hs
            cases hs
            obtain ⟨rfl, hlt⟩ := idx_some hidx
            have hadd : (⟨b, base + o, none⟩ : Addr).add (r * m) = ⟨b, base + (o + r * m), none⟩ := by
              unfold Addr.add; split
              · rename_i hz; rw [hz]; simp
              · simp [Nat.add_assoc]
            refine ⟨rfl, .pointer (some ⟨b, base + (o + r * m), none⟩), ?_, .ptr _ _ _ _ hmu⟩
            have hcond : (0 : Int) ≤ Int.ofNat r ∧ Int.ofNat r < (n : Int) := ⟨Int.natCast_nonneg r, Int.ofNat_lt.2 hlt⟩
            simp only [Instr.indexAt, asIntOf, Sem.run_bind, Sem.run_pure, Result.andThen_ok, run_und hu, Instr.sureAddr]
            rw [if_pos hcond]
            simp [run_szT hm, hadd]
        refine ⟨key.1, ?_⟩
        have := key.2.next
        simpa only [execOp, ho] using this
      case slice e =>
        obtain ⟨m, hm, x', hx, i', hi, rfl⟩ := h
        have hv := hO _ _ hx
        have hvi := hO _ _ hi
        change o_idxAddrS m x' i' Q T h0 = _ at hs
        unfold o_idxAddrS at hs
        have key : h1 = h0 ∧ Gives P g μ sz w (Instr.indexAt t (ρ x) (ρ i)) v := by
          generalize evO T x' = u at hv hs
          generalize ρ x = z at hv
          generalize evO T i' = ui at hvi hs
          generalize ρ i = zi at hvi
          cases hv <;> (try (cases hs; done))
          case slc0 bi o cap esz ad base hmu hcap =>
            cases hvi <;> (try (cases hs; done))
            rename_i k j
            dsimp only at hs
            cases hidx : idx j 0 with
            | none => rw [hidx] at hs; cases hs
            | some r => have := (idx_some hidx).2; omega
          case slc bi o len cap esz b base cap' n hmu hsz hn' hl hcap =>
            cases hvi <;> (try (cases hs; done))
            rename_i k j
            dsimp only at hs
            cases hidx : idx j len with
            | none => rw [hidx] at hs; cases hs
            | some r =>
              rw [hidx] at hs
              cases hs
              obtain ⟨rfl, hlt⟩ := idx_some hidx
              have hadd : (⟨b, base + o, none⟩ : Addr).add (r * m) = ⟨b, base + (o + r * m), none⟩ := by
                unfold Addr.add; split
                · rename_i hz; rw [hz]; simp
                · simp [Nat.add_assoc]
              refine ⟨rfl, .pointer (some ⟨b, base + (o + r * m), none⟩), ?_, .ptr _ _ _ _ hmu⟩
              have hcond : (0 : Int) ≤ Int.ofNat r ∧ Int.ofNat r < (len : Int) := ⟨Int.natCast_nonneg r, Int.ofNat_lt.2 hlt⟩
              simp only [Instr.indexAt, asIntOf, Sem.run_bind, Sem.run_pure, Result.andThen_ok, run_und hu]
              rw [if_pos hcond]
              simp [run_szT hm, hadd]
        refine ⟨key.1, ?_⟩
        have := key.2.next
        simpa only [execOp, ho] using this
  case index t x i =>
    cases hu : P.underlying t with
    | none => rw [hu] at h; cases h
    | some d =>
      rw [hu] at h
      cases d <;> simp only [reduceCtorEq, Option.bind_eq_some_iff, Option.some.injEq] at h <;> (try (exact h.elim))
      case array n e =>
        obtain ⟨m, hm, ag, hag, x', hx, i', hi, rfl⟩ := h
        have hv := hO _ _ hx
        have hvi := hO _ _ hi
        change o_idxArr n m ag x' i' Q T h0 = _ at hs
        unfold o_idxArr at hs
        have hshape : shapeN P e = some (agSz ag m) := by unfold shapeN; rw [hag, hm]; cases ag <;> rfl
        have key : h1 = h0 ∧ Gives P g μ sz w (Instr.index t (ρ x) (ρ i)) v := by
          generalize evO T x' = u at hv hs
          generalize ρ x = z at hv
          generalize evO T i' = ui at hvi hs
          generalize ρ i = zi at hvi
          cases hv <;> (try (cases hs; done))
          rename_i cs cs' hcs
          cases hvi <;> (try (cases hs; done))
          rename_i k j
          dsimp only at hs
          cases hidx : idx j n with
          | none => rw [hidx] at hs; cases hs
          | some r =>
            rw [hidx] at hs
            obtain ⟨e1, e2⟩ := same_some hs
            obtain ⟨rfl, hlt⟩ := idx_some hidx
            obtain ⟨y, hy, hyr⟩ := part_ok (w := w) hshape hcs e1
            refine ⟨e2, y, ?_, hyr⟩
            have hcond : (0 : Int) ≤ Int.ofNat r ∧ Int.ofNat r < (n : Int) := ⟨Int.natCast_nonneg r, Int.ofNat_lt.2 hlt⟩
            simp only [Instr.index, asIntOf, Sem.run_bind, Sem.run_pure, Result.andThen_ok, run_und hu]
            rw [if_pos hcond]
            simp [run_szT hm, hy]
        refine ⟨key.1, ?_⟩
        have := key.2.next
        simpa only [execOp, ho] using this
      case string =>
        obtain ⟨x', hx, i', hi, rfl⟩ := h
        have hv := hO _ _ hx
        have hvi := hO _ _ hi
        change o_idxStr x' i' Q T h0 = _ at hs
        unfold o_idxStr at hs
        have key : h1 = h0 ∧ Gives P g μ sz w (Instr.index t (ρ x) (ρ i)) v := by
          generalize evO T x' = u at hv hs
          generalize ρ x = z at hv
          generalize evO T i' = ui at hvi hs
          generalize ρ i = zi at hvi
          cases hv <;> (try (cases hs; done))
          rename_i s bs hbs
          cases hvi <;> (try (cases hs; done))
          rename_i k j
          cases j with
          | negSucc j => cases hs
          | ofNat j =>
            simp only at hs
            cases hj : s[j]? with
            | none => rw [hj] at hs; cases hs
            | some c =>
              rw [hj] at hs
              cases hs
              rw [← hbs, List.getElem?_map, Option.map_eq_some_iff] at hj
              obtain ⟨b, hb, hbc⟩ := hj
              have hlt : j < bs.size := by
                have := (List.getElem?_eq_some_iff.1 hb).1
                rwa [show bs.data.toList.length = bs.size from Array.length_toList] at this
              have hget : bs[j]? = some b := by
                rw [ByteArray.getElem?_lt' bs j hlt]
                have : bs.data.toList[j]? = some bs[j] := by
                  rw [Array.getElem?_toList]
                  exact Array.getElem?_eq_getElem hlt
                rw [this] at hb; exact hb
              refine ⟨rfl, .int .u8 b.toNat, ?_, by rw [← hbc]; exact .int _ _⟩
              simp only [Instr.index, asIntOf, Sem.run_bind, Sem.run_pure, Result.andThen_ok, run_und hu]
              rw [if_pos (by simp)]
              simp [hget]
        refine ⟨key.1, ?_⟩
        have := key.2.next
        simpa only [execOp, ho] using this
  case sliceToArrayPointer t x =>
    cases hu : P.underlying t with
    | none => rw [hu] at h; cases h
    | some d =>
      rw [hu] at h
      cases d <;> simp only [reduceCtorEq, Option.bind_eq_some_iff, Option.some.injEq] at h <;> (try (exact h.elim))
      obtain ⟨x', hx, rfl⟩ := h
      obtain ⟨e1, e2⟩ := same_some hs
      refine ⟨e2, ?_⟩
      have := (s2a_ok (w := w) hu (hO _ _ hx) e1).next
      simpa only [execOp, ho] using this
  case extract x i =>
    obtain ⟨x', hx, rfl⟩ := h
    have hv := hO _ _ hx
    change o_ext x' i Q T h0 = _ at hs
    unfold o_ext at hs
    have key : h1 = h0 ∧ Gives P g μ sz w (Instr.extract (ρ x) i) v := by
      generalize evO T x' = u at hv hs
      generalize ρ x = z at hv
      cases hv <;> (try (cases hs; done))
      rename_i cs cs' hcs
      obtain ⟨e1, e2⟩ := same_some hs
      obtain ⟨y, hy, hyr⟩ := hcs.get e1
      rw [Array.getElem?_toList] at hy
      exact ⟨e2, y, by simp [Instr.extract, hy], hyr⟩
    refine ⟨key.1, ?_⟩
    have := key.2.next
    simpa only [execOp, ho] using this
  case call c =>
    cases hcal : c.callee with
    | value f =>
      rw [hcal] at h
      cases f <;> simp only [Option.bind_eq_some_iff, Option.some.injEq] at h
      case func f =>
        cases hbo : bitsOp P f with
        | none =>
          simp only [hbo, Option.bind_eq_some_iff, Option.some.injEq] at h
          obtain ⟨as, has, rfl⟩ := h; cases hc
        | some sub =>
          simp only [hbo] at h
          split at h <;> (try (cases h; done))
          rename_i x y z hargs
          simp only [Option.bind_eq_some_iff, Option.some.injEq] at h
          obtain ⟨x', hx, y', hy, z', hz, rfl⟩ := h
          obtain ⟨e1, e2⟩ := same_some hs
          exact ⟨e2, bits_ok hO ho hcal hbo hargs (hO _ _ hx) (hO _ _ hy) (hO _ _ hz) e1⟩
      all_goals obtain ⟨f', hf, as, has, rfl⟩ := h; cases hc
    | invoke r m => rw [hcal] at h; cases h
    | builtin b =>
      rw [hcal] at h
      obtain ⟨cs, hex⟩ := exec_builtin ρ ho hcal
      cases b <;> simp only [reduceCtorEq] at h
      case append =>
        split at h
        · cases h
        · split at h <;> (try (cases h; done))
          split at h <;> (try (cases h; done))
          all_goals
            simp only [Option.bind_eq_some_iff, Option.some.injEq] at h
          · obtain ⟨i, _, z, _, _, _, x0, _, y0, _, x1, _, y1, _, rfl⟩ := h; cases hc
          · obtain ⟨i, _, z, _, _, _, x0, _, y0, _, x1, _, y1, _, rfl⟩ := h; cases hc
      case len =>
        cases hat : c.argTypes[0]? with
        | none => rw [hat] at h; cases h
        | some t =>
          rw [hat] at h
          cases hu : P.underlying t with
          | none => simp only [hu] at h; cases h
          | some d =>
            simp only [hu] at h
            cases d <;> simp only [reduceCtorEq, Option.bind_eq_some_iff, Option.some.injEq] at h <;> (try (exact h.elim))
            case string =>
              obtain ⟨x0, hx0, x', hx, rfl⟩ := h
              obtain ⟨e1, e2⟩ := same_some hs
              refine ⟨e2, ?_⟩
              have := (len_ok (w := w) (ty := o.type) hat (args0 (ρ := ρ) hx0) e1 (hO _ _ hx) hu).next
              rw [hex]; exact this
            case slice e =>
              obtain ⟨x0, hx0, x', hx, rfl⟩ := h
              obtain ⟨e1, e2⟩ := same_some hs
              refine ⟨e2, ?_⟩
              have := (len_ok (w := w) (ty := o.type) hat (args0 (ρ := ρ) hx0) e1 (hO _ _ hx) ⟨e, hu⟩).next
              rw [hex]; exact this
            case array n e =>
              split at h
              · cases h
              · rename_i hne
                cases h
                cases hs
                obtain ⟨x0, hx0⟩ : ∃ x0, c.args[0]? = some x0 := ⟨c.args[0], Array.getElem?_eq_getElem (Nat.pos_of_ne_zero hne)⟩
                refine ⟨rfl, goInt n, ?_, .int _ _⟩
                rw [hex]
                simp [builtin, Builtin.len_, hat, args0 hx0, run_und hu, hx0]
            case pointer e =>
              cases hu2 : P.underlying e with
              | none => rw [hu2] at h; cases h
              | some d2 =>
                rw [hu2] at h
                cases d2 <;> simp only [reduceCtorEq] at h
                split at h
                · cases h
                · rename_i n e' hne
                  cases h
                  cases hs
                  obtain ⟨x0, hx0⟩ : ∃ x0, c.args[0]? = some x0 := ⟨c.args[0], Array.getElem?_eq_getElem (Nat.pos_of_ne_zero hne)⟩
                  refine ⟨rfl, goInt n, ?_, .int _ _⟩
                  rw [hex]
                  simp [builtin, Builtin.len_, hat, args0 hx0, run_und hu, run_und hu2, hx0]
      case cap =>
        cases hat : c.argTypes[0]? with
        | none => rw [hat] at h; cases h
        | some t =>
          rw [hat] at h
          cases hu : P.underlying t with
          | none => simp only [hu] at h; cases h
          | some d =>
            simp only [hu] at h
            cases d <;> simp only [reduceCtorEq, Option.bind_eq_some_iff, Option.some.injEq] at h <;> (try (exact h.elim))
            obtain ⟨x0, hx0, x', hx, rfl⟩ := h
            have hv := hO _ _ hx
            change o_cap x' Q T h0 = _ at hs
            unfold o_cap at hs
            rw [hex]
            have key : h1 = h0 ∧ ∃ n, VR g μ sz v (.int .i64 n) ∧ ∃ a l c', ρ x0 = .slice a l c' ∧ n = (c' : Int) := by
              generalize evO T x' = u at hv hs
              generalize ρ x0 = z at hv
              cases hv <;> (try (cases hs; done))
              case slcN c e' hcap =>
                cases c with
                | none => cases hs
                | some c => cases hs; have := hcap c rfl; subst this; exact ⟨rfl, _, .int _ _, _, _, _, rfl, rfl⟩
              case slc bi o len cap esz b base cap' n hmu hsz hn' hl hcap =>
                cases cap with
                | none => cases hs
                | some c => cases hs; have := hcap c rfl; subst this; exact ⟨rfl, _, .int _ _, _, _, _, rfl, rfl⟩
              case slc0 bi o cap esz ad base hmu hcap =>
                cases cap with
                | none => cases hs
                | some c => cases hs; have := hcap c rfl; subst this; exact ⟨rfl, _, .int _ _, _, _, _, rfl, rfl⟩
            obtain ⟨e1, n, hn, ad, l, c', hz, rfl⟩ := key
            refine ⟨e1, _, ?_, hn⟩
            have ha0 := args0 (ρ := ρ) hx0
            rw [hz] at ha0
            simp [builtin, Builtin.cap_, hat, ha0, run_und hu, goInt]
      case copy =>
        split at h
        · cases h
        · split at h <;> (try (cases h; done))
          simp only [Option.bind_eq_some_iff, Option.some.injEq] at h
          obtain ⟨i, _, x0, _, y0, _, x1, _, y1, _, rfl⟩ := h; cases hc
      case min =>
        simp only [Option.bind_eq_some_iff, Option.some.injEq] at h
        obtain ⟨as, has, rfl⟩ := h
        obtain ⟨e1, e2⟩ := same_some hs
        refine ⟨e2, ?_⟩
        rw [hex]
        have hl := hO.list _ _ has
        cases hev : evOs T as with
        | nil => rw [hev] at e1; cases e1
        | cons u us =>
          rw [hev] at e1 hl
          cases hca : c.args.toList.map ρ with
          | nil => rw [hca] at hl; cases hl
          | cons z zs =>
            rw [hca] at hl
            cases hl with
            | cons _ _ _ _ h1' h2' =>
              have := (min_ok (P := P) (w := w) true us zs u v z e1 h1' h2').next
              have e : (c.args.map ρ).toList = z :: zs := by rw [Array.toList_map]; exact hca
              simpa only [builtin, Builtin.min_, e, if_true] using this
      case max =>
        simp only [Option.bind_eq_some_iff, Option.some.injEq] at h
        obtain ⟨as, has, rfl⟩ := h
        obtain ⟨e1, e2⟩ := same_some hs
        refine ⟨e2, ?_⟩
        rw [hex]
        have hl := hO.list _ _ has
        cases hev : evOs T as with
        | nil => rw [hev] at e1; cases e1
        | cons u us =>
          rw [hev] at e1 hl
          cases hca : c.args.toList.map ρ with
          | nil => rw [hca] at hl; cases hl
          | cons z zs =>
            rw [hca] at hl
            cases hl with
            | cons _ _ _ _ h1' h2' =>
              have := (min_ok (P := P) (w := w) false us zs u v z e1 h1' h2').next
              have e : (c.args.map ρ).toList = z :: zs := by rw [Array.toList_map]; exact hca
              simpa only [builtin, Builtin.max_, e, Bool.false_eq_true, if_false] using this
  case alloc e => obtain ⟨z, _, rfl⟩ := h; cases hc
  case box e x => obtain ⟨z, _, rfl⟩ := h; cases hc
  case buildSlice t n ps =>
    split at h <;> (try (cases h; done))
    simp only [Option.bind_eq_some_iff, Option.some.injEq] at h
    obtain ⟨i, _, z, _, qs, _, rfl⟩ := h; cases hc
  case load t x => obtain ⟨n, _, z, _, rfl⟩ := h; cases hc
  case store t x y => obtain ⟨n, _, z, _, u, _, rfl⟩ := h; cases hc
  case makeSlice t x y =>
    split at h <;> (try (cases h; done))
    simp only [Option.bind_eq_some_iff, Option.some.injEq] at h
    obtain ⟨i, _, z, _, _, _, x', _, y', _, rfl⟩ := h; cases hc
  all_goals cases h
end Go.Eng

/-
  ENGINE, part 11: operations on the heap. Own work.
-/
namespace Go.Eng
open Go

variable {P : Program} {g : Gn} {μ : Mu} {w : World}

/-- what an operation comes to, with the heap -/
def GivesH (P : Program) (g : Gn) (μ : Mu) (h : H) (w : World) (s : Sem Next) (v : V) (h1 : H) : Prop :=
  ∃ r w1 μ1 x, s.run P w = .ok r w1 ∧ (r = .value x ∨ r = .skip ∧ x = undef) ∧ HR P g μ1 h1 w1 ∧ Ext μ h w μ1 h1 w1 ∧ VR g μ1 (szOf w1) v x

theorem GivesN.heap {s : Sem Next} {v : V} {h : H} (hr : HR P g μ h w) (hg : GivesN P g μ (szOf w) w s v) : GivesH P g μ h w s v h := by
  obtain ⟨x, h1, h2⟩ := hg
  exact ⟨_, w, μ, x, h1, .inl rfl, hr, Ext.refl _ _ _, h2⟩

theorem add_off (b o n : Nat) : (⟨b, o, none⟩ : Addr).add n = ⟨b, o + n, none⟩ := by
  unfold Addr.add
  split
  · rename_i h; rw [h]; rfl
  · rfl

/-! ### A new row -/
theorem new_row {h : H} (hr : HR P g μ h w) (w0 : World) (hw0 : w0.heap = w.heap) (c : Array Value) (e : TypeId) (fz : Nat × Nat) (vs : List V) (m : Md) (hm : m ≠ .ro)
    (hv : ∀ (j : Nat) v, vs[j]? = some v → ∃ x, c[j]? = some x ∧ VR g μ (szOf w) v x) (hlen : vs.length ≤ c.size) (hf : fz.1 = fz.2 ∨ c.size ≤ fz.1) (hf2 : m = .rw → fz.1 = fz.2) (hio : w0.os = w.os ∧ w0.output = w.output := by exact ⟨rfl, rfl⟩) :
    HR P g (μ.add h.next (w.heap.size, 0)) (h.new (.cells vs m)) (w0.alloc (.cells c e fz)) ∧ Ext μ h w (μ.add h.next (w.heap.size, 0)) (h.new (.cells vs m)) (w0.alloc (.cells c e fz)) ∧
      szOf (w0.alloc (.cells c e fz)) w.heap.size = some c.size := by
  have hw1 : (w0.alloc (.cells c e fz)).heap = w.heap.push (.cells c e fz) := by simp [World.alloc, hw0]
  have hnew : (w0.alloc (.cells c e fz)).heap[w.heap.size]? = some (.cells c e fz) := by rw [hw1]; simp
  have hfr : μ h.next = none := hr.fresh _ (Nat.le_refl _)
  have hsz : Sz.le (szOf w) (szOf (w0.alloc (.cells c e fz))) := by
    intro b n hb
    have hlt : b < w.heap.size := by
      unfold szOf at hb
      rcases Nat.lt_or_ge b w.heap.size with h' | h'
      · exact h'
      · rw [Array.getElem?_eq_none h'] at hb; cases hb
    unfold szOf at hb ⊢
    rw [hw1, Array.getElem?_push, if_neg (Nat.ne_of_lt hlt)]; exact hb
  have key := HR.new hr (.cells c e fz) (.cells vs m) _ hw1
    ⟨c, e, fz, hnew, by omega, fun j v hj => by
      obtain ⟨x, h1, h2⟩ := hv j v hj
      exact ⟨x, by rw [Nat.zero_add]; exact h1, h2.mono (Mu.le_add hfr) hsz⟩, fun _ => hf, hf2⟩ hio
  exact ⟨key.1, key.2, szOf_cells hnew⟩

/-- a run that ends by laying one row -/
def GivesR (P : Program) (g : Gn) (μ : Mu) (h : H) (w : World) (s : Sem Next) (v : V) (h1 : H) : Prop :=
  ∃ (z : Value) (w0 : World) (c : Array Value) (e : TypeId) (fz : Nat × Nat) (vs : List V) (m : Md) (mk : Nat → V), s.run P w = .ok (.value z) (w0.alloc (.cells c e fz)) ∧ w0.heap = w.heap ∧ (w0.os = w.os ∧ w0.output = w.output) ∧ m ≠ .ro ∧
    (∀ (j : Nat) v, vs[j]? = some v → ∃ x, c[j]? = some x ∧ VR g μ (szOf w) v x) ∧ vs.length ≤ c.size ∧ (fz.1 = fz.2 ∨ c.size ≤ fz.1) ∧ (m = .rw → fz.1 = fz.2) ∧ h1 = h.new (.cells vs m) ∧ v = mk h.next ∧
    ∀ (i : Nat) (μ' : Mu) (sz' : Sz), μ' i = some (w.heap.size, 0) → sz' w.heap.size = some c.size → VR g μ' sz' (mk i) z

theorem GivesR.heap {h h1 : H} {s : Sem Next} {v : V} (hr : HR P g μ h w) (hg : GivesR P g μ h w s v h1) : GivesH P g μ h w s v h1 := by
  obtain ⟨z, w0, c, e, fz, vs, m, mk, q1, q2, q3, q4, q5, q6, q7, q8, rfl, rfl, q9⟩ := hg
  obtain ⟨k1, k2, k3⟩ := new_row hr w0 q2 c e fz vs m q4 q5 q6 q7 q8 q3
  exact ⟨_, _, _, _, q1, .inl rfl, k1, k2, q9 _ _ _ (Mu.add_same _ _ _) k3⟩

theorem ptr_new {h : H} (w0 : World) (hw0 : w0.heap = w.heap) (c : Array Value) (e : TypeId) (vs : List V) (hv : VRs g μ (szOf w) vs c.toList) {s : Sem Next}
    (hs : s.run P w = .ok (.value (.pointer (some ⟨w.heap.size, 0, none⟩))) (w0.alloc (.cells c e))) (hio : w0.os = w.os ∧ w0.output = w.output := by exact ⟨rfl, rfl⟩) : GivesR P g μ h w s (.ptr (some (h.next, 0))) (h.new (.cells vs .rw)) := by
  have hl := hv.length
  have t1 : c.toList.length = c.size := Array.length_toList
  exact ⟨_, w0, c, e, (0, 0), vs, .rw, fun n => .ptr (some (n, 0)), hs, hw0, hio, (fun e => nomatch e), (fun j v hj => by
    obtain ⟨x, hx, hvr⟩ := hv.get hj
    exact ⟨x, by rw [← Array.getElem?_toList]; exact hx, hvr⟩), by omega, .inl rfl, fun _ => rfl, rfl, rfl, fun i μ' sz' hi _ => .ptr _ _ _ 0 hi⟩

theorem alloc_ok {h : H} {e : TypeId} {z : V} (hz : zeroOf P e = some z) : GivesR P g μ h w (do pure (.value (← Instr.alloc e true (.tuple #[])))) (.ptr (some (h.next, 0))) (h.new (.cells z.cells .rw)) := by
  obtain ⟨x, hx, hxr⟩ := zeroOf_ok (g := g) (μ := μ) (sz := szOf w) hz
  refine ptr_new w rfl x.cells e _ hxr.cells ?_
  simp [Instr.alloc, hx, newVar, newRow]
theorem box_ok {h : H} {e : TypeId} {a : V} {x : Value} (hx : VR g μ (szOf w) a x) : GivesR P g μ h w (do pure (.value (← Instr.box e x))) (.ptr (some (h.next, 0))) (h.new (.cells a.cells .rw)) := by
  refine ptr_new w rfl x.cells e _ hx.cells ?_
  simp [Instr.box, newVar, newRow]

/-! ### Loads -/
theorem cellsAt_some {h : H} {i : Nat} {vs : List V} (e : cellsAt h i = some vs) : ∃ m, h.get i = some (.cells vs m) := by
  unfold cellsAt at e
  split at e
  · cases e; rename_i m hm; exact ⟨m, hm⟩
  · cases e

/-- a row's cells, as the machine reads them -/
theorem row_read {vs : List V} {m : Md} {b base : Nat} (hb : BR P g μ w (.cells vs m) b base) {off n : Nat} {l : List V} (hr : readN vs off n = some l) :
    ∃ xs : List Value, xs.length = n ∧ VRs g μ (szOf w) l xs ∧ ∀ (j : Nat) x, xs[j]? = some x → w.cell? ((⟨b, base + off, none⟩ : Addr).add j) = some x := by
  obtain ⟨c, e, fz, h1, h0, h2, h3, h4⟩ := hb
  obtain ⟨he, hl⟩ := readN_eq hr
  have hle : l.length ≤ (vs.drop off).length := by rw [he]; simp; omega
  refine ⟨(c.toList.drop (base + off)).take n, ?_, ?_, ?_⟩
  · have t1 : c.toList.length = c.size := Array.length_toList
    simp only [List.length_drop] at hle
    simp only [List.length_take, List.length_drop]
    by_cases hn : n = 0
    · omega
    · omega
  · refine VRs.of_get ?_ fun j v x hv hx => ?_
    · have t1 : c.toList.length = c.size := Array.length_toList
      simp only [List.length_drop] at hle
      simp only [List.length_take, List.length_drop]
      by_cases hn : n = 0
      · omega
      · omega
    · have hjl := (List.getElem?_eq_some_iff.1 hv).1
      rw [he, List.getElem?_take, List.getElem?_drop] at hv
      rw [List.getElem?_take, List.getElem?_drop] at hx
      split at hv
      · rename_i hjn
        rw [if_pos hjn] at hx
        obtain ⟨y, hy, hvr⟩ := h2 _ _ hv
        have hx' : c[base + (off + j)]? = some x := by rw [← Array.getElem?_toList, ← Nat.add_assoc]; exact hx
        rw [hy] at hx'; cases hx'; exact hvr
      · cases hv
  · intro j x hx
    rw [List.getElem?_take, List.getElem?_drop] at hx
    split at hx
    · rw [add_off, cell_of_row w b _ c e fz h1, ← Array.getElem?_toList]; exact hx
    · cases hx

theorem load_ok {h : H} (hr : HR P g μ h w) {t : TypeId} {s : Option Nat} (hs : shapeN P t = some s) {a v : V} {x : Value} (hx : VR g μ (szOf w) a x) (hl : loadV h s a = some v) :
    Gives P g μ (szOf w) w (Instr.loadAt t x) v := by
  cases a <;> (try (cases hl; done))
  rename_i ad
  cases ad with
  | none => cases hl
  | some p =>
    obtain ⟨i, off⟩ := p
    simp only [loadV] at hl
    cases hca : cellsAt h i with
    | none => rw [hca] at hl; cases hl
    | some vs =>
      rw [hca] at hl
      obtain ⟨m, hm⟩ := cellsAt_some hca
      obtain ⟨b, base, hmu, hbr⟩ := hr.blk i _ hm
      cases hx with
      | ptr _ _ b' base' hmu' =>
        rw [hmu] at hmu'; cases hmu'
        obtain ⟨n, hn, hc⟩ := shapeN_some hs
        rcases hc with ⟨rfl, hagg⟩ | ⟨rfl, hagg⟩
        · simp only at hl
          cases hrd : readN vs off n with
          | none => rw [hrd] at hl; cases hl
          | some l =>
            rw [hrd] at hl; cases hl
            obtain ⟨xs, hxl, hxr, hxc⟩ := row_read hbr hrd
            refine ⟨.agg xs.toArray, ?_, .agg _ _ (by simpa using hxr)⟩
            have := run_loadCells_list (P := P) w ⟨b, base + off, none⟩ xs hxc
            rw [hxl] at this
            simp [Instr.loadAt, Instr.sureAddr, loadVar, run_isAgg hagg, run_szT hn, this]
        · simp only at hl
          obtain ⟨c, e, fz, h1, h0, h2, h3, h4⟩ := hbr
          obtain ⟨y, hy, hyr⟩ := h2 _ _ hl
          refine ⟨y, ?_, hyr⟩
          have : w.cell? ⟨b, base + off, none⟩ = some y := by rw [cell_of_row w b _ c e fz h1]; exact hy
          simp [Instr.loadAt, Instr.sureAddr, loadVar, run_isAgg hagg, this]

/-! ### Stores -/
theorem cell?_lt {a : Addr} {v : Value} (h : w.cell? a = some v) : a.block < w.heap.size := World.block_lt_of_cell? w a h

theorem plainV_one {v : V} {x : Value} {sz : Sz} (h : VR g μ sz v x) (hp : plainV v = true) : x.oneCell' = true := by
  cases h <;> first | rfl | cases hp

/-- several cells of one row, one after the other -/
theorem run_storeCells (b : Nat) : ∀ (l : List Value) (off i : Nat) (w : World) (c : Array Value) (e : TypeId) (fz : Nat × Nat), w.heap[b]? = some (.cells c e fz) → off + i + l.length ≤ c.size →
    (∀ x ∈ l, x.oneCell' = true) → (fz.1 = fz.2 ∨ c.size ≤ fz.1) →
    ∃ w1, (Go.storeCells ⟨b, off, none⟩ l i).run P w = .ok () w1 ∧ w1.heap.size = w.heap.size ∧ (∀ k, k ≠ b → w1.heap[k]? = w.heap[k]?) ∧ (w1.os = w.os ∧ w1.output = w.output) ∧
      ∃ c1, w1.heap[b]? = some (.cells c1 e fz) ∧ c1.size = c.size ∧ ∀ j, c1[j]? = if off + i ≤ j ∧ j < off + i + l.length then l[j - (off + i)]? else c[j]? := by
  intro l
  induction l with
  | nil =>
    intro off i w c e fz h1 _ _ _
    exact ⟨w, by simp [Go.storeCells], rfl, fun _ _ => rfl, ⟨rfl, rfl⟩, c, h1, rfl, fun j => by rw [if_neg (by simp)]⟩
  | cons x l ih =>
    intro off i w c e fz h1 h2 h3 h4
    simp only [List.length_cons] at h2
    have hlt : off + i < c.size := by omega
    have hcell : w.cell? ⟨b, off + i, none⟩ = some c[off + i] := by rw [cell_of_row w b _ c e fz h1]; exact Array.getElem?_eq_getElem hlt
    have hfz : w.frozen? ⟨b, off + i, none⟩ = false := by
      simp only [World.frozen?, h1]
      have : ¬ (fz.1 ≤ off + i ∧ off + i < fz.2) := by omega
      cases hd : (decide (fz.1 ≤ off + i) && decide (off + i < fz.2)) with
      | false => rfl
      | true => simp only [Bool.and_eq_true, decide_eq_true_eq] at hd; exact absurd hd this
    have hset : (w.setCell ⟨b, off + i, none⟩ x).heap[b]? = some (.cells (c.setIfInBounds (off + i) x) e fz) := by
      simp [World.setCell, Array.getElem?_modify, h1]
    obtain ⟨w1, r1, r2, r3, rio, c1, r4, r5, r6⟩ := ih off (i + 1) (w.setCell ⟨b, off + i, none⟩ x) (c.setIfInBounds (off + i) x) e fz hset (by simp; omega) (fun y hy => h3 y (List.mem_cons_of_mem _ hy)) (by simpa using h4)
    refine ⟨w1, ?_, ?_, ?_, ⟨rio.1, rio.2⟩, c1, r4, by rw [r5]; simp, ?_⟩
    · simp only [Go.storeCells, add_off, Sem.run_bind, run_store P w _ x .plain (h3 x (List.mem_cons_self ..)), hcell, hfz, Bool.false_eq_true, if_false, Result.andThen_ok]
      exact r1
    · rw [r2]; simp
    · intro k hk
      rw [r3 k hk]
      exact heap_setCell_other w _ k x hk
    · intro j
      rw [r6 j]
      simp only [List.length_cons]
      by_cases hj : off + i = j
      · subst hj
        rw [if_neg (by omega), if_pos (by omega)]
        simp [hlt]
      · by_cases hc : off + (i + 1) ≤ j ∧ j < off + (i + 1) + l.length
        · rw [if_pos hc, if_pos (by omega)]
          have : j - (off + i) = (j - (off + (i + 1))) + 1 := by omega
          rw [this, List.getElem?_cons_succ]
        · rw [if_neg hc, if_neg (by omega), Array.getElem?_setIfInBounds_ne hj]

theorem sz_of_same {w w1 : World} {b : Nat} {c c1 : Array Value} {e : TypeId} {fz fz1 : Nat × Nat} (h : w.heap[b]? = some (.cells c e fz)) (h1 : w1.heap[b]? = some (.cells c1 e fz1)) (hs : c1.size = c.size)
    (ho : ∀ k, k ≠ b → w1.heap[k]? = w.heap[k]?) : Sz.le (szOf w) (szOf w1) := by
  intro k n hk
  by_cases hkb : k = b
  · subst hkb; rw [szOf_cells h] at hk; cases hk; rw [szOf_cells h1, hs]
  · unfold szOf at hk ⊢; rw [ho k hkb]; exact hk

theorem storeCells_ok {h h1 : H} (hr : HR P g μ h w) {i off : Nat} {l : List V} (hs : Eng.storeCells h i off l = some h1) {b base : Nat} (hmu : μ i = some (b, base)) {xs : List Value} (hl : VRs g μ (szOf w) l xs) (hp : l.all plainV = true) :
    ∃ w1, (Go.storeCells ⟨b, base + off, none⟩ xs).run P w = .ok () w1 ∧ HR P g μ h1 w1 ∧ Ext μ h w μ h1 w1 := by
  unfold Eng.storeCells at hs
  cases hg : h.get i with
  | none => rw [hg] at hs; cases hs
  | some blk =>
    rw [hg] at hs
    cases blk <;> (try (cases hs; done))
    rename_i vs m
    obtain ⟨b', base', hmu', hbr⟩ := hr.blk i _ hg
    rw [hmu] at hmu'; cases hmu'
    have hm : m ≠ .ro ∧ (bif Nat.ble (off + l.length) vs.length then some (h.put i (.cells (writeN vs off l) m)) else none) = some h1 := by
      cases m <;> first | (cases hs; done) | exact ⟨(fun e => nomatch e), hs⟩
    obtain ⟨hmro, hs⟩ := hm
    obtain ⟨hle, hs⟩ := cond_true hs
    cases hs
    rw [Nat.ble_eq] at hle
    obtain ⟨c, e, fz, q1, q0, q2, q3, q4⟩ := hbr
    have hro : isRo m = false := by cases m <;> first | rfl | exact absurd rfl hmro
    have hown : (Blk.cells vs m).own = true := by cases m <;> first | rfl | exact absurd rfl hmro
    have hll := hl.length
    have hone : ∀ x ∈ xs, x.oneCell' = true := by
      intro x hx
      obtain ⟨j, hj, rfl⟩ := List.mem_iff_getElem.1 hx
      have hjl : j < l.length := by omega
      obtain ⟨y, hy, hvr⟩ := hl.get (List.getElem?_eq_getElem hjl)
      rw [List.getElem?_eq_getElem hj] at hy; cases hy
      exact plainV_one hvr (List.all_eq_true.1 hp _ (List.getElem_mem hjl))
    obtain ⟨w1, r1, r2, r3, rio, c1, r4, r5, r6⟩ := run_storeCells (P := P) b xs (base + off) 0 w c e fz q1 (by omega) hone (q3 hro)
    have hsz := sz_of_same q1 r4 r5 r3
    refine ⟨w1, r1, HR.put hr i (.cells vs m) (.cells (writeN vs off l) m) b base hg hown hmu w1 r2 r3 hsz ?_ rio⟩
    refine ⟨c1, e, fz, r4, by rw [length_writeN _ _ _ hle, r5]; exact q0, fun j v hj => ?_, fun hh => by rw [r5]; exact q3 hh, q4⟩
    rw [get_writeN _ _ _ _ hle] at hj
    by_cases hc : off ≤ j ∧ j < off + l.length
    · rw [if_pos hc] at hj
      obtain ⟨y, hy, hvr⟩ := hl.get hj
      refine ⟨y, ?_, hvr.mono (Mu.le_refl _) hsz⟩
      rw [r6, if_pos (by omega)]
      rw [show base + j - (base + off + 0) = j - off by omega]; exact hy
    · rw [if_neg hc] at hj
      obtain ⟨y, hy, hvr⟩ := q2 _ _ hj
      refine ⟨y, ?_, hvr.mono (Mu.le_refl _) hsz⟩
      rw [r6, if_neg (by omega)]; exact hy

theorem store_ok {h h1 : H} (hr : HR P g μ h w) {t : TypeId} {n : Nat} (hn : sizeT P t = some n) {a v : V} {x y : Value} (hx : VR g μ (szOf w) a x) (hy : VR g μ (szOf w) v y) (hs : storeV h n a v = some h1) :
    GivesH P g μ h w (do Instr.storeAt t x y; pure .skip) undefV h1 := by
  cases a <;> (try (cases hs; done))
  rename_i ad
  cases ad with
  | none => cases hs
  | some p =>
    obtain ⟨i, off⟩ := p
    simp only [storeV] at hs
    obtain ⟨hc, hs⟩ := cond_true hs
    simp only [Bool.and_eq_true, Nat.beq_eq] at hc
    cases hx with
    | ptr _ _ b base hmu =>
      obtain ⟨w1, r1, r2, r3⟩ := storeCells_ok hr hs hmu hy.cells hc.2
      have hlen := hy.cells.length
      refine ⟨.skip, w1, μ, undef, ?_, .inr ⟨rfl, rfl⟩, r2, r3, .tup _ _ .nil⟩
      have hsize : y.cells.size = n := by
        have t1 : y.cells.toList.length = y.cells.size := Array.length_toList
        omega
      simp [Instr.storeAt, Instr.sureAddr, storeVar, run_szT hn, hsize, r1]
end Go.Eng

/-
  ENGINE, part 12: strings and bytes, rows that are made, references held against each other. Own work.
-/
namespace Go.Eng
open Go

variable {P : Program} {g : Gn} {μ : Mu} {w : World}

theorem okB_true {b : Bool} {u : Unit} (h : okB b = some u) : b = true := by cases b with | true => rfl | false => cases h

/-! ### Bytes and strings -/
theorem bytesOf_ok : ∀ (l : List V) (s : List Nat) (xs : List Value) {sz : Sz}, bytesOf l = some s → VRs g μ sz l xs → ∃ ns : List Int, xs = ns.map (Value.int .u8) ∧ s = ns.map fun n => (UInt8.ofNat n.toNat).toNat := by
  intro l
  induction l with
  | nil => intro s xs sz h hx; cases h; cases hx; exact ⟨[], rfl, rfl⟩
  | cons v l ih =>
    intro s xs sz h hx
    cases hx with
    | cons _ x _ ys hv hys =>
      cases v <;> (try (cases h; done))
      rename_i k n
      cases k <;> (try (cases h; done))
      cases n <;> (try (cases h; done))
      rename_i n
      simp only [bytesOf] at h
      cases hr : bytesOf l with
      | none => rw [hr] at h; cases h
      | some s' =>
        rw [hr] at h; cases h
        obtain ⟨ns, e1, e2⟩ := ih s' ys hr hys
        cases hv
        exact ⟨(Int.ofNat n) :: ns, by rw [e1]; rfl, by rw [e2]; simp⟩
theorem foldl_push : ∀ (ns : List Int) (r : ByteArray), (ns.foldl (fun r n => r.push (UInt8.ofNat n.toNat)) r).data.toList = r.data.toList ++ ns.map fun n => UInt8.ofNat n.toNat := by
  intro ns
  induction ns with
  | nil => intro r; simp
  | cons n ns ih => intro r; simp [ih]

theorem b2s_ok {h : H} (hr : HR P g μ h w) {a v : V} {x : Value} (hx : VR g μ (szOf w) a x) (hb : b2sV h a = some v) {s d e : TypeId} (hs : P.underlying s = some (.slice e)) (he : P.underlying e = some (.int .u8)) (hd : P.underlying d = some .string) :
    Gives P g μ (szOf w) w (convert s d x) v := by
  have hcv : ∀ (a : Option Addr) (l c : Nat), (convert s d (.slice a l c)).run P w = (Conv.bytesToString (.slice a l c)).run P w := fun a l c => run_convert_bytes_string w s d e a l c hs he hd
  cases a <;> (try (cases hb; done))
  rename_i ad len cap esz
  cases ad with
  | none =>
    cases hb
    cases hx
    exact ⟨.string .empty, by rw [hcv]; rfl, .str _ _ rfl⟩
  | some p =>
    obtain ⟨i, off⟩ := p
    simp only [b2sV] at hb
    have zero : ∀ (ad : Addr) (c : Nat), (convert s d (.slice (some ad) 0 c)).run P w = .ok (.string ByteArray.empty) w := by
      intro ad c
      rw [hcv]
      exact run_bytesToString w ad 0 c [] (by simp [loadCells, loadCellsFrom])
    cases len with
    | zero =>
      cases hb
      cases hx with
      | slc => exact ⟨_, zero _ _, .str _ _ rfl⟩
      | slc0 => exact ⟨_, zero _ _, .str _ _ rfl⟩
    | succ len =>
      simp only at hb
      cases hca : cellsAt h i with
      | none => rw [hca] at hb; cases hb
      | some vs =>
        rw [hca] at hb
        simp only at hb
        cases hrd : readN vs off (len + 1) with
        | none => rw [hrd] at hb; cases hb
        | some l =>
          rw [hrd] at hb
          simp only at hb
          cases hby : bytesOf l with
          | none => rw [hby] at hb; cases hb
          | some st =>
            rw [hby] at hb; cases hb
            obtain ⟨m, hm⟩ := cellsAt_some hca
            obtain ⟨b, base, hmu, hbr⟩ := hr.blk i _ hm
            cases hx with
            | slc _ _ _ _ _ b' base' cap' n hmu' hs' hn hl hc =>
              rw [hmu] at hmu'; cases hmu'
              obtain ⟨xs, hxl, hxr, hxc⟩ := row_read hbr hrd
              obtain ⟨ns, e1, e2⟩ := bytesOf_ok _ _ _ hby hxr
              have hload := run_loadCells_list (P := P) w ⟨b, base + off, none⟩ xs hxc
              rw [hxl, e1] at hload
              refine ⟨_, (hcv _ _ _).trans (run_bytesToString w ⟨b, base + off, none⟩ (len + 1) cap' ns hload), .str _ _ ?_⟩
              rw [foldl_push, e2]
              simp

theorem size_bytesRow (s : ByteArray) (cap : Nat) : (bytesRow s cap).size = s.size + (cap - s.size) := by
  unfold bytesRow
  rw [Array.size_append, Array.size_map, Array.size_replicate]
  rfl
theorem le_grownCap (w : World) (need old : Nat) (e : TypeId) : need ≤ grownCap w need old e := by
  unfold grownCap Question.cut
  exact Nat.le_add_right _ _

theorem s2b_ok {h h1 : H} {T : Tr V} {x' : O} {v : V} {x : Value} (hx : VR g μ (szOf w) (evO T x') x) {Q : Orc} (hst : o_s2b x' Q T h = some (v, h1)) {s d e : TypeId} (hs : P.underlying s = some .string) (he : P.underlying e = some (.int .u8)) (hd : P.underlying d = some (.slice e)) :
    GivesR P g μ h w (do pure (.value (← convert s d x))) v h1 := by
  unfold o_s2b at hst
  generalize evO T x' = u at hx hst
  cases hx <;> (try (cases hst; done))
  rename_i st bs hbs
  cases hst
  have hrun := run_bytes_of_string (P := P) w s d e bs hs hd he
  generalize hcap : grownCap w bs.size 0 e = cap at hrun
  have hle : bs.size ≤ cap := hcap ▸ le_grownCap w bs.size 0 e
  have hlen : st.length = bs.size := by rw [← hbs, List.length_map]; exact Array.length_toList
  have hofb : ∀ (l : List Nat), (ofBytes l).length = l.length ∧ ∀ (j : Nat), (ofBytes l)[j]? = (l[j]?).map fun n => V.int .u8 (.ofNat n) := by
    intro l
    induction l with
    | nil => exact ⟨rfl, fun j => rfl⟩
    | cons a l ih => exact ⟨by simp [ofBytes, ih.1], fun j => by cases j with | zero => rfl | succ j => simpa [ofBytes] using ih.2 j⟩
  have hsize : (bytesRow bs cap).size = cap := by rw [size_bytesRow]; omega
  rw [hsize] at hrun
  refine ⟨.slice (some ⟨w.heap.size, 0, none⟩) bs.size cap, w.drew, bytesRow bs cap, e, (cap, cap + 1), ofBytes st, .sh, fun n => .slice (some (n, 0)) bs.size none 1, by simp only [Sem.run_bind, hrun, Result.andThen_ok, Sem.run_pure], rfl, ⟨rfl, rfl⟩, (fun e => nomatch e), (fun j v hj => by
    rw [(hofb st).2 j, Option.map_eq_some_iff] at hj
    obtain ⟨n, hn, rfl⟩ := hj
    have hjl : j < st.length := (List.getElem?_eq_some_iff.1 hn).1
    have hjs : j < bs.data.size := by rw [hlen] at hjl; exact hjl
    refine ⟨_, bytesRow_at bs cap j hjs, ?_⟩
    rw [← hbs, List.getElem?_map, Option.map_eq_some_iff] at hn
    obtain ⟨c, hc, rfl⟩ := hn
    rw [Array.getElem?_toList, Array.getElem?_eq_getElem hjs] at hc
    cases hc
    exact .int _ _), by rw [(hofb st).1, hsize]; omega, .inr (by rw [hsize]; exact Nat.le_refl _), (fun e => nomatch e), rfl, by rw [hlen], fun i μ' sz' hi k3 => ?_⟩
  rw [hsize] at k3
  have := VR.slc (g := g) i 0 bs.size none 1 w.heap.size 0 cap cap hi k3 (by omega) hle (fun x hx => by cases hx)
  simpa using this

theorem mark_ok {h h1 : H} (hr : HR P g μ h w) {T : Tr V} {x' : O} {v : V} {x : Value} (hx : VR g μ (szOf w) (evO T x') x) {Q : Orc} (hst : o_mark x' Q T h = some (v, h1)) {s e : TypeId} (hs : P.underlying s = some (.slice e)) (he : P.underlying e = some (.int .u8)) :
    GivesH P g μ h w (do pure (.value (← convert s s x))) v h1 := by
  unfold o_mark at hst
  generalize evO T x' = u at hx hst
  have key : ∀ (i off len : Nat) (cap : Option Nat) (esz : Nat) (ad : Addr) (cap' base : Nat), u = .slice (some (i, off)) len cap esz → x = .slice (some ad) len cap' → μ i = some (ad.block, base) → GivesH P g μ h w (do pure (.value (← convert s s x))) v h1 := by
    rintro i off len cap esz ad cap' base rfl rfl hmu
    simp only at hst
    cases hg : h.get i with
    | none => rw [hg] at hst; cases hst
    | some blk =>
      rw [hg] at hst
      cases blk <;> (try (cases hst; done))
      rename_i vs m
      have hm : m ≠ .ro ∧ v = .slice (some (i, off)) len cap esz ∧ h1 = h.put i (.cells vs .sh) := by
        cases m <;> first | (cases hst; done) | (cases hst; exact ⟨(fun e => nomatch e), rfl, rfl⟩)
      obtain ⟨hmro, rfl, rfl⟩ := hm
      obtain ⟨b, base', hmu', hbr⟩ := hr.blk i _ hg
      rw [hmu] at hmu'; cases hmu'
      obtain ⟨c, e', fz, q1, q0, q2, q3, q4⟩ := hbr
      have hro : isRo m = false := by cases m <;> first | rfl | exact absurd rfl hmro
      have hown : (Blk.cells vs m).own = true := by cases m <;> first | rfl | exact absurd rfl hmro
      have hrun : (convert s s (.slice (some ad) len cap')).run P w = .ok (.slice (some ad) len cap') (w.freeze ⟨ad.block, c.size, none⟩ 1) := by
        have hsh : w.shape? ad.block = some (e', c.size) := by simp [World.shape?, q1]
        simp [convert, run_und hs, run_und he, markStringish, hsh]
      generalize hw1 : w.freeze ⟨ad.block, c.size, none⟩ 1 = w1 at hrun
      have hb1 : ∃ fz1 : Nat × Nat, w1.heap[ad.block]? = some (.cells c e' fz1) ∧ (fz1.1 = fz1.2 ∨ c.size ≤ fz1.1) := by
        obtain ⟨lo, hi⟩ := fz
        refine ⟨if lo == hi then (c.size, c.size + 1) else (min lo c.size, max hi (c.size + 1)), ?_, ?_⟩
        · rw [← hw1]; simp [World.freeze, Array.getElem?_modify, q1]
        · by_cases hlh : lo = hi
          · rw [if_pos (by simpa using hlh)]; right; exact Nat.le_refl _
          · rw [if_neg (by simpa using hlh)]
            have := (q3 hro).resolve_left hlh
            right
            show c.size ≤ min lo c.size
            have : c.size ≤ lo := this
            omega
      obtain ⟨fz1, hb1, hfz1⟩ := hb1
      have hother : ∀ k, k ≠ ad.block → w1.heap[k]? = w.heap[k]? := by
        intro k hk
        rw [← hw1]; simp only [World.freeze, Nat.one_ne_zero, if_false]
        rw [Array.getElem?_modify, if_neg (fun e => hk e.symm)]
      have hsize : w1.heap.size = w.heap.size := by rw [← hw1]; simp [World.freeze]
      have hsz := sz_of_same q1 hb1 rfl hother
      obtain ⟨k1, k2⟩ := HR.put hr i (.cells vs m) (.cells vs .sh) ad.block base hg hown hmu w1 hsize hother hsz
        ⟨c, e', fz1, hb1, q0, fun j v hj => (q2 j v hj).imp fun x hx => ⟨hx.1, hx.2.mono (Mu.le_refl _) hsz⟩, fun _ => hfz1, fun e => nomatch e⟩ (by rw [← hw1]; simp [World.freeze])
      exact ⟨.value (.slice (some ad) len cap'), w1, μ, _, by simp only [Sem.run_bind, hrun, Result.andThen_ok, Sem.run_pure], .inl rfl, k1, k2, hx.mono (Mu.le_refl _) hsz⟩
  cases hx <;> (try (cases hst; done))
  case slc i o len cap esz b base cap' n hmu hsz hn hl hc => exact key _ _ _ _ _ ⟨b, base + o, none⟩ _ base rfl rfl hmu
  case slc0 i o cap esz ad base hmu hc => exact key _ _ _ _ _ ad _ base rfl rfl hmu
end Go.Eng

/-
  ENGINE, part 13: rows made and grown. Own work.
-/
namespace Go.Eng
open Go

variable {P : Program} {g : Gn} {μ : Mu} {w : World}

theorem get_flatten {α : Type} (l : List α) : ∀ (n j : Nat), j < n * l.length → (List.replicate n l).flatten[j]? = l[j % l.length]? := by
  intro n
  induction n with
  | zero => intro j h; omega
  | succ n ih =>
    intro j h
    rw [List.replicate_succ, List.flatten_cons]
    by_cases hj : j < l.length
    · rw [List.getElem?_append_left hj, Nat.mod_eq_of_lt hj]
    · rw [List.getElem?_append_right (by omega), ih (j - l.length) (by rw [Nat.succ_mul] at h; omega), ← Nat.mod_eq_sub_mod (by omega)]
theorem length_flatten {α : Type} (l : List α) (n : Nat) : (List.replicate n l).flatten.length = n * l.length := by
  induction n with
  | zero => simp
  | succ n ih => rw [List.replicate_succ, List.flatten_cons, List.length_append, ih, Nat.succ_mul]; omega
theorem madeCells_ok {sz : Sz} {z : List V} {x : Array Value} (hz : VRs g μ sz z x.toList) (n : Nat) : VRs g μ sz (List.replicate n z).flatten (madeCells x (n * x.size)).toList := by
  have hl := hz.length
  have t1 : x.toList.length = x.size := Array.length_toList
  have t2 : (madeCells x (n * x.size)).toList.length = (madeCells x (n * x.size)).size := Array.length_toList
  rw [size_madeCells] at t2
  refine VRs.of_get (by rw [length_flatten, t2, hl, t1]) fun j v y hv hy => ?_
  have hj : j < n * z.length := by rw [← length_flatten]; exact (List.getElem?_eq_some_iff.1 hv).1
  rw [get_flatten _ _ _ hj] at hv
  obtain ⟨y', hy', hvr⟩ := hz.get hv
  have hxs : 0 < x.size := by
    rcases Nat.eq_zero_or_pos x.size with h0 | h0
    · rw [hl, t1, h0] at hj; omega
    · exact h0
  have hjm : j % x.size < x.size := Nat.mod_lt _ hxs
  rw [Array.getElem?_toList] at hy hy'
  rw [hl, t1] at hy' hj
  have : (madeCells x (n * x.size))[j]? = some x[j % x.size] := by
    unfold madeCells
    rw [Array.getElem?_map, Array.getElem?_range, if_pos hj]
    simp [hjm]
  rw [this] at hy; cases hy
  rw [Array.getElem?_eq_getElem hjm] at hy'; cases hy'
  exact hvr
theorem madeCells_size (x : Array Value) (n : Nat) : madeCells x n = (Array.range n).map (x[· % x.size]!) := rfl

theorem mkslice_ok {h h1 : H} {T : Tr V} {l' c' : O} {v : V} {L C : Value} (hl : VR g μ (szOf w) (evO T l') L) (hc : VR g μ (szOf w) (evO T c') C) {Q : Orc} {t e : TypeId} {i : TypeInfo} {z : V}
    (hst : o_mkslice z.cells i.bytes l' c' Q T h = some (v, h1)) (ht : P.underlying t = some (.slice e)) (hi : P.info? e = some i) (hz : zeroOf P e = some z) (hzl : z.cells.length = i.size) :
    GivesR P g μ h w (do pure (.value (← Instr.makeSlice t L C))) v h1 := by
  unfold o_mkslice at hst
  generalize evO T l' = u at hl hst
  generalize evO T c' = u2 at hc hst
  obtain ⟨kl, l, rfl, rfl⟩ : ∃ kl l, u = .int kl (.ofNat l) ∧ L = .int kl (.ofNat l) := by
    cases hl <;> (try (cases hst; done))
    rename_i k n
    cases n with
    | ofNat n => exact ⟨_, _, rfl, rfl⟩
    | negSucc n => cases hst
  obtain ⟨kc, c, rfl, rfl⟩ : ∃ kc c, u2 = .int kc (.ofNat c) ∧ C = .int kc (.ofNat c) := by
    cases hc <;> (try (cases hst; done))
    rename_i k n
    cases n with
    | ofNat n => exact ⟨_, _, rfl, rfl⟩
    | negSucc n => cases hst
  simp only at hst
  obtain ⟨hcond, hst⟩ := cond_true hst
  simp only [Bool.and_eq_true, Nat.ble_eq, roomy] at hcond
  obtain ⟨hlc, hroom, hroom2⟩ := hcond
  cases hst
  obtain ⟨zx, hzx, hzr⟩ := zeroOf_ok (g := g) (μ := μ) (sz := szOf w) hz
  have hi0 : i.zero = some zx := by
    have := hzx w
    simp only [zeroValue, typeInfo, Sem.run_bind, run_program, Result.andThen_ok, hi, Sem.run_pure] at this
    cases hz0 : i.zero with
    | none => rw [hz0] at this; cases this
    | some y => rw [hz0] at this; cases this; rfl
  have hcl := hzr.cells.length
  have t1 : zx.cells.toList.length = zx.cells.size := Array.length_toList
  have hsz : zx.cells.size = i.size := by omega
  have hrun := run_make (P := P) w t e i zx ht hi hi0 kl kc (l : Int) (c : Int) (by omega) (by omega) (by
    have : (i.bytes : Int) * (c : Int) = ((c * i.bytes : Nat) : Int) := by rw [Int.natCast_mul, Int.mul_comm]
    rw [this]; omega) (by omega)
  rw [show (l : Int).toNat = l from rfl, show (c : Int).toNat = c from rfl, ← hsz] at hrun
  have hv := madeCells_ok hzr.cells c
  have hlen := hv.length
  have t2 : (madeCells zx.cells (c * zx.cells.size)).toList.length = (madeCells zx.cells (c * zx.cells.size)).size := Array.length_toList
  refine ⟨.slice (some ⟨w.heap.size, 0, none⟩) l c, w, madeCells zx.cells (c * zx.cells.size), e, (0, 0), (List.replicate c z.cells).flatten, .rw, fun n => .slice (some (n, 0)) l (some c) z.cells.length, by
    simp only [Sem.run_bind]
    rw [show (Instr.makeSlice t (Value.int kl (Int.ofNat l)) (Value.int kc (Int.ofNat c))).run P w = _ from hrun]
    simp only [Result.andThen_ok, Sem.run_pure], rfl, ⟨rfl, rfl⟩, (fun e => nomatch e), (fun j v hj => by
    obtain ⟨x, hx, hvr⟩ := hv.get hj
    exact ⟨x, by rw [← Array.getElem?_toList]; exact hx, hvr⟩), by omega, .inl rfl, (fun _ => rfl), rfl, rfl, fun i' μ' sz' hi' k3 => ?_⟩
  have := VR.slc (g := g) i' 0 l (some c) z.cells.length w.heap.size 0 c _ hi' k3 (by rw [size_madeCells, hzl, hsz]; simp) hlc (fun x hx => by cases hx; rfl)
  simpa using this

theorem length_fillV : ∀ (ps : List (Nat × Nat × V)) (cs l : List V), fillV cs ps = some l → l.length = cs.length := by
  intro ps
  induction ps with
  | nil => intro cs l h; cases h; rfl
  | cons p ps ih =>
    intro cs l h
    obtain ⟨off, size, v⟩ := p
    simp only [fillV] at h
    obtain ⟨hc, h⟩ := cond_true h
    simp only [Bool.and_eq_true, Nat.beq_eq, Nat.ble_eq] at hc
    rw [ih _ _ h, length_writeN _ _ _ (by omega)]
theorem buildS_ok {h h1 : H} {T : Tr V} {ρ : Operand → Value} (hO : OR g μ (szOf w) T ρ) {t e : TypeId} {n s : Nat} {ps : List (Nat × Operand)} {qs : List (Nat × Nat × O)} {z : List V} {v : V} {Q : Orc}
    (ht : P.underlying t = some (.slice e)) (hs : sizeT P e = some s) (hz : zeroRow P e n s = some z) (hq : ps.mapM (partO g.f fun i => some (i * s, s)) = some qs)
    (hst : o_buildS (List.replicate n z).flatten n s qs Q T h = some (v, h1)) :
    GivesR P g μ h w (do pure (.value (← Instr.buildSlice t n (ps.map fun (i, x) => (i, ρ x)).toArray))) v h1 := by
  unfold o_buildS at hst
  cases hf : fillV (List.replicate n z).flatten (evP T qs) with
  | none => rw [hf] at hst; cases hst
  | some l =>
    rw [hf] at hst; cases hst
    obtain ⟨hlen, hget⟩ := parts_ok hO (place' := fun i => some (i * s, s)) (fun i x hx => hx) _ _ hq
    unfold zeroRow at hz
    split at hz
    · cases hz
    · rename_i hbig
      -- the zero cells
      have hzero : ∃ zx : Array Value, ((n * s = 0 ∧ zx = #[]) ∨ (n * s ≠ 0 ∧ ∃ zv : Value, (∀ w, (zeroValue e).run P w = .ok zv w) ∧ zx = zv.cells)) ∧ VRs g μ (szOf w) (List.replicate n z).flatten (madeCells zx (n * s)).toList := by
        split at hz
        · rename_i h0
          cases hz
          refine ⟨#[], .inl ⟨h0, rfl⟩, ?_⟩
          have e1 : madeCells #[] (n * s) = #[] := by rw [h0]; simp [madeCells]
          rw [e1]
          have e2 : (List.replicate n ([] : List V)).flatten = [] := by simp
          rw [e2]; exact .nil
        · rename_i h0
          cases hz0 : zeroOf P e with
          | none => rw [hz0] at hz; cases hz
          | some zv =>
            rw [hz0] at hz
            simp only at hz
            split at hz
            · rename_i hzl
              cases hz
              obtain ⟨zx, hzx, hzr⟩ := zeroOf_ok (g := g) (μ := μ) (sz := szOf w) hz0
              have hcl := hzr.cells.length
              have t1 : zx.cells.toList.length = zx.cells.size := Array.length_toList
              refine ⟨zx.cells, .inr ⟨h0, zx, hzx, rfl⟩, ?_⟩
              have := madeCells_ok hzr.cells n
              rw [show zx.cells.size = s by omega] at this
              exact this
            · cases hz
      obtain ⟨zx, hzx, hzr⟩ := hzero
      obtain ⟨ys, hys, hyr⟩ := fill_ok (place := fun i => some (i * s, s)) _ _ _ _ _ hzr hf hlen hget
      have hll := hyr.length
      have t2 : ys.toList.length = ys.size := Array.length_toList
      have hbig' : ¬ n * s > 2 ^ 24 := hbig
      refine ⟨.slice (some ⟨w.heap.size, 0, none⟩) n n, w, ys, e, (0, 0), l, .rw, fun k => .slice (some (k, 0)) n (some n) s, ?_, rfl, ⟨rfl, rfl⟩, (fun e => nomatch e), (fun j v hj => by
        obtain ⟨x, hx, hvr⟩ := hyr.get hj
        exact ⟨x, by rw [← Array.getElem?_toList]; exact hx, hvr⟩), by omega, .inl rfl, (fun _ => rfl), rfl, rfl, fun i' μ' sz' hi' k3 => ?_⟩
      · simp only [Instr.buildSlice, Sem.run_bind, run_und ht, Result.andThen_ok, run_szT hs]
        rw [if_neg hbig']
        have hys' : Instr.fill (fun i => some (i * s, s)) ((Array.range (n * s)).map (zx[· % zx.size]!)) (List.map (fun x => (x.1, ρ x.2)) ps) = some ys := hys
        rcases hzx with ⟨h0, rfl⟩ | ⟨h0, zv, hzv, rfl⟩
        · rw [if_pos h0]
          simp only [pure_bind, hys', Sem.run_bind, newRow, run_newObj, Result.andThen_ok, Sem.run_pure]
          rfl
        · rw [if_neg h0]
          simp only [pure_bind, hys', Sem.run_bind, hzv, newRow, run_newObj, Result.andThen_ok, Sem.run_pure]
          rfl
      · have hysz : n * s ≤ ys.size := by
          have e1 : l.length = (List.replicate n z).flatten.length := length_fillV _ _ _ hf
          rw [length_flatten] at e1
          have e2 : n * s = n * z.length := by
            split at hz
            · rename_i h0; cases hz; simpa using h0
            · cases hz0 : zeroOf P e with
              | none => rw [hz0] at hz; cases hz
              | some zv =>
                rw [hz0] at hz
                simp only at hz
                split at hz
                · rename_i hzl; cases hz; rw [hzl]
                · cases hz
          omega
        have := VR.slc (g := g) i' 0 n (some n) s w.heap.size 0 n _ hi' k3 (by omega) (Nat.le_refl _) (fun x hx => by cases hx; rfl)
        simpa using this
end Go.Eng
