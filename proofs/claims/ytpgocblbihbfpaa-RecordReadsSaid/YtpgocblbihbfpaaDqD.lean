/- What functions of the program come to: own work. -/
import Derived.Test.YtpgocblbihbfpaaDqC
namespace Go.Eng
open Go
variable {E : Nat → Option Fn} {X : Orc}
set_option linter.unusedSimpArgs false
set_option linter.unusedVariables false
/-- a slice of bytes that may be written over -/
def Ow (h : H) (w : List Nat) (a : Option (Nat × Nat)) (e : Nat) : Prop := w = [] ∨ ∃ q md, a = some (q, 0) ∧ e = 1 ∧ h.get q = some (.cells (ofI .u8 w) md) ∧ isRo md = false ∧ q < h.next
theorem Ow.src {h : H} {w : List Nat} {a : Option (Nat × Nat)} {e : Nat} (s : Ow h w a e) : SrcH h a e w := by
  rcases s with s | ⟨q, md, rfl, rfl, g, _, hq⟩
  · exact .inl s
  · exact .inr ⟨q, 0, _, md, rfl, rfl, hq, g, by rw [ofI_len]; omega, by rw [List.drop_zero]; exact List.take_of_length_le (by rw [ofI_len]; exact Nat.le_refl _)⟩
theorem Ow.kp {h h' : H} {w : List Nat} {a : Option (Nat × Nat)} {e : Nat} (s : Ow h w a e) (k : Kp h h') : Ow h' w a e := by
  rcases s with s | ⟨q, md, e1, e2, g, hm, hq⟩
  · exact .inl s
  · exact .inr ⟨q, md, e1, e2, by rw [k.2 _ hq, g], hm, Nat.lt_of_lt_of_le hq k.1⟩
theorem Wb.ow {h : H} {w : List Nat} {a : Option (Nat × Nat)} {c : Option Nat} {e : Nat} (s : Wb h w a c e) : Ow h w a e := by
  rcases s with ⟨h1, _⟩ | ⟨_, q, md, e1, _, e3, g, hm, hq⟩
  · exact .inl h1
  · exact .inr ⟨q, md, e1, e3, g, hm, hq⟩
/-- an operation's cells: its data lie in blocks from lo on, and not in q -/
def RqF (lo q : Nat) (h : H) (o : Rq) (p : List V) : Prop := ∃ a c e, p = [.int .i64 o.kind, .slice a o.l.length c e] ∧ Ow h o.l a e ∧ (o.l ≠ [] → ∀ b z, a = some (b, z) → lo ≤ b ∧ b ≠ q)
theorem RqF.mono {lo q : Nat} {h h' : H} {o : Rq} {p : List V} (x : RqF lo q h o p) (hn : h.next ≤ h'.next) (k : ∀ i, lo ≤ i → i < h.next → i ≠ q → h'.get i = h.get i) : RqF lo q h' o p := by
  obtain ⟨a, c, e, rfl, s, d⟩ := x
  refine ⟨a, c, e, rfl, ?_, d⟩
  by_cases hl : o.l = []
  · exact .inl hl
  · rcases s with s | ⟨bi, m, h1, h2, h4, h5, h3⟩
    · exact .inl s
    · obtain ⟨d1, d2⟩ := d hl bi 0 h1
      exact .inr ⟨bi, m, h1, h2, by rw [k _ d1 h3 d2, h4], h5, Nat.lt_of_lt_of_le h3 hn⟩
/-- a row of operations that is nobody else's -/
def RrF (lo : Nat) (h : H) (dn : List Rq) (a : Option (Nat × Nat)) (c : Option Nat) (e : Nat) : Prop := (dn = [] ∧ a = none ∧ c = some 0 ∧ e = 0) ∨ (0 < dn.length ∧ ∃ q md parts, a = some (q, 0) ∧ c = none ∧ e = 2 ∧ h.get q = some (.cells parts.flatten md) ∧ Al2 (RqF lo q h) dn parts ∧ isRo md = false ∧ q < h.next ∧ lo ≤ q)
theorem RrF.mono {lo : Nat} {h h' : H} {dn : List Rq} {a : Option (Nat × Nat)} {c : Option Nat} {e : Nat} (r : RrF lo h dn a c e) (hn : h.next ≤ h'.next) (k : ∀ i, lo ≤ i → i < h.next → h'.get i = h.get i) : RrF lo h' dn a c e := by
  rcases r with r | ⟨h1, q, md, ps, e1, e2, e3, g, al, hm, hq, hl⟩
  · exact .inl r
  · exact .inr ⟨h1, q, md, ps, e1, e2, e3, by rw [k _ hl hq, g], al.imp (fun _ _ x => x.mono hn (fun i h1 h2 _ => k i h1 h2)), hm, Nat.lt_of_lt_of_le hq hn, hl⟩
theorem RrF.kp {lo : Nat} {h h' : H} {dn : List Rq} {a : Option (Nat × Nat)} {c : Option Nat} {e : Nat} (r : RrF lo h dn a c e) (k : Kp h h') : RrF lo h' dn a c e := r.mono k.1 (fun i _ hi => k.2 i hi)
theorem RrF.lt {lo : Nat} {h : H} {dn : List Rq} {a : Option (Nat × Nat)} {c : Option Nat} {e : Nat} (r : RrF lo h dn a c e) {q z : Nat} (ea : a = some (q, z)) : lo ≤ q ∧ q < h.next := by
  rcases r with ⟨_, h1, _⟩ | ⟨_, q', _, _, h1, _, _, _, _, _, hq, hl⟩
  · rw [h1] at ea; cases ea
  · rw [h1] at ea; cases ea; exact ⟨hl, hq⟩
theorem ral_len2 {lo q : Nat} {h : H} {ops : List Rq} {parts : List (List V)} (al : Al2 (RqF lo q h) ops parts) : ∀ p ∈ parts, p.length = 2 := by
  induction al with
  | nil => intro p hp; cases hp
  | cons h1 _ ih => intro p hp; rcases List.mem_cons.1 hp with rfl | hp
                    · obtain ⟨a, c, e, rfl, _⟩ := h1; rfl
                    · exact ih p hp
theorem Al2.snoc {α β : Type} {p : α → β → Prop} {as : List α} {bs : List β} (h : Al2 p as bs) {a : α} {b : β} (x : p a b) : Al2 p (as ++ [a]) (bs ++ [b]) := by
  induction h with
  | nil => exact .cons x .nil
  | cons h1 _ ih => exact .cons h1 ih
theorem src_r (h : H) (k : IntKind) (x : Int) (a : Option (Nat × Nat)) (n : Nat) (c : Option Nat) (e : Nat) : srcCells (h.new (.cells [.int k x, .slice a n c e] .rw)) 2 (.slice (some (h.next, 0)) 1 (some 1) 2) = some (1, [.int k x, .slice a n c e]) := by
  rw [m_src, h_new_same]; rfl
theorem rap_row (lo : Nat) (h : H) (hlo : lo ≤ h.next) (dn : List Rq) (hd : dn.length ≤ 1000000) (a : Option (Nat × Nat)) (c : Option Nat) (e : Nat) (r : RrF lo h dn a c e) (o : Rq) (b : Option (Nat × Nat)) (cb : Option Nat) (eb : Nat) (hs : Ow h o.l b eb) (hb : o.l ≠ [] → ∀ q z, b = some (q, z) → lo ≤ q ∧ a ≠ some (q, 0)) :
    ∃ h', appendC h 2 32 (.slice a dn.length c e) (some (1, [.int .i64 o.kind, .slice b o.l.length cb eb])) = some (.slice (some (h.next, 0)) (dn.length + 1) none 2, h') ∧ RrF lo h' (dn ++ [o]) (some (h.next, 0)) none 2 ∧ h'.next = h.next + 1 ∧ ∀ i, i < h.next → a ≠ some (i, 0) → h'.get i = h.get i := by
  obtain ⟨P, eP⟩ : ∃ P : List V, [.int .i64 o.kind, .slice b o.l.length cb eb] = P := ⟨_, rfl⟩
  have pl : P.all plainV = true := by rw [← eP]; rfl
  have lP : P.length = 2 := by rw [← eP]; rfl
  have hbn : o.l ≠ [] → ∀ q z, b = some (q, z) → q < h.next := fun hl q z eq => by
    rcases hs with s | ⟨bi, m, h1, h2, _, _, h3⟩
    · exact absurd s hl
    · rw [h1] at eq; cases eq; exact h3
  rw [eP]
  rcases r with ⟨rfl, rfl, rfl, rfl⟩ | ⟨h1, q, md, ps, rfl, rfl, rfl, g, al, hm, hq, hl⟩
  · have k : Kp h (h.new (.cells P .rw)) := Kp.new _ _
    refine ⟨h.new (.cells P .rw), ?_, .inr ⟨by simp, h.next, .rw, [P], rfl, rfl, rfl, by rw [h_new_same]; simp, .cons ⟨b, cb, eb, eP.symm, hs.kp k, fun hl q z eq => ⟨(hb hl q z eq).1, by have := hbn hl q z eq; omega⟩⟩ .nil, rfl, Nat.lt_succ_self _, hlo⟩, rfl, fun i hi _ => h_new_ne _ _ (by omega)⟩
    unfold appendC
    simp only [List.length_nil]
    rw [pl]; rfl
  · have lp : ps.flatten.length = dn.length * 2 := by rw [flat_len (k := 2) (ral_len2 al), al.len]
    have nx : ((h.del q).new (.cells (ps.flatten ++ P) .sh)).next = h.next + 1 := by simp only [h_next_new, h_next_del]
    have fr : ∀ i, i < h.next → i ≠ q → ((h.del q).new (.cells (ps.flatten ++ P) .sh)).get i = h.get i := fun i hi hne => by
      rw [h_new_ne _ _ (by rw [h_next_del]; omega), h_del_ne _ (fun e => hne e.symm)]
    have al2 : Al2 (RqF lo h.next ((h.del q).new (.cells (ps.flatten ++ P) .sh))) (dn ++ [o]) (ps ++ [P]) := by
      have one : RqF lo h.next ((h.del q).new (.cells (ps.flatten ++ P) .sh)) o P := by
        refine ⟨b, cb, eb, eP.symm, ?_, fun hl q z eq => ⟨(hb hl q z eq).1, by have := hbn hl q z eq; omega⟩⟩
        by_cases ol : o.l = []
        · exact .inl ol
        · rcases hs with s | ⟨bi, m, f1, f2, f4, f5, f3⟩
          · exact .inl s
          · exact .inr ⟨bi, m, f1, f2, by rw [fr _ f3 (fun e => (hb ol bi 0 f1).2 (by rw [e])), f4], f5, by rw [nx]; omega⟩
      have al3 : Al2 (RqF lo h.next ((h.del q).new (.cells (ps.flatten ++ P) .sh))) dn ps := al.imp (fun o' p' y => by
        obtain ⟨a', c', e', ep, s, d⟩ := y
        refine ⟨a', c', e', ep, ?_, fun hl b' z eq => ⟨(d hl b' z eq).1, ?_⟩⟩
        · by_cases ol : o'.l = []
          · exact .inl ol
          · rcases s with s | ⟨bi, m, f1, f2, f4, f5, f3⟩
            · exact .inl s
            · exact .inr ⟨bi, m, f1, f2, by rw [fr _ f3 (d ol bi 0 f1).2, f4], f5, by rw [nx]; omega⟩
        · rcases s with s | ⟨bi, m, f1, f2, f4, f5, f3⟩
          · exact absurd s hl
          · rw [f1] at eq; cases eq; omega)
      exact al3.snoc one
    refine ⟨(h.del q).new (.cells (ps.flatten ++ P) .sh), ?_, .inr ⟨by simp, h.next, .sh, ps ++ [P], rfl, rfl, rfl, by rw [h_new_same' _ _ (by rw [h_next_del])]; simp, al2, rfl, by rw [nx]; omega, hlo⟩, nx, fun i hi hne => fr i hi (fun e => hne (by rw [e]))⟩
    unfold appendC
    simp only
    have r : (roomy (dn.length + 1) 32 && (Nat.beq 2 2 || (some (q, 0) : Option (Nat × Nat)).isNone) && P.all plainV) = true := by
      rw [pl]; have : roomy (dn.length + 1) 32 = true := by simp [roomy]; omega
      rw [this]; rfl
    have f : fullC none (dn.length + 1) = false := rfl
    have rd := readN_of ps.flatten 0 (dn.length * 2) (by omega)
    rw [List.drop_zero, List.take_of_length_le (by omega)] at rd
    rw [r]
    simp only [_root_.cond_true, g, f]
    cases md with
    | ro => cases hm
    | rw => simp only [rd]
    | sh => simp only [rd]
end Go.Eng
namespace Go.Eng
open Go
variable {E : Nat → Option Fn} {X : Orc}
set_option linter.unusedSimpArgs false
set_option linter.unusedVariables false
structure NoRcd (X : Orc) : Prop where
  yld : ∀ l a h, X (.yld l) a h = none
theorem fl2 (y z u v : V) : fillV [y, z] [(0, 2, .agg [u, v])] = some [u, v] := rfl
/-- an operation that is told to Split -/
theorem ry_go (x : NoRcd X) (M L p4 p5 D lo : Nat) (T0 : Tr V) (t4 : evO T0 (.t 4) = .ptr (some (p4, 0))) (t5 : evO T0 (.t 5) = .ptr (some (p5, 0))) (hp4 : p4 < lo) (hp5 : p5 < lo) (hL : L < lo) (z45 : p4 ≠ p5) (zL4 : L ≠ p4) (zL5 : L ≠ p5) (h : H) (hlo : lo ≤ h.next) (dn : List Rq) (hd : dn.length ≤ 1000000) (a : Option (Nat × Nat)) (c : Option Nat) (ez : Nat) (n0 : Int)
    (g4 : h.get p4 = some (.cells [.slice a dn.length c ez] .rw)) (g5 : h.get p5 = some (.cells [.int .i64 n0] .rw)) (gL : h.get L = some (.loop 0 none 29 T0 [20, 21] A_record_All_0 B_record_All_0 D)) (row : RrF lo h dn a c ez)
    (o : Rq) (b : Option (Nat × Nat)) (cb : Option Nat) (eb : Nat) (hs : Ow h o.l b eb) (hb : o.l ≠ [] → ∀ q z, b = some (q, z) → lo ≤ q ∧ a ≠ some (q, 0)) (at' : Nat) :
    ∃ h' a' c' e', callX E X (M + 1) (.yld L) [.int .i64 (at' : Int), .agg [.int .i64 o.kind, .slice b o.l.length cb eb]] h = some (.bool true, h') ∧ h.next ≤ h'.next ∧ h'.get p4 = some (.cells [.slice a' (dn.length + 1) c' e'] .rw) ∧ h'.get p5 = some (.cells [.int .i64 (at' : Int)] .rw) ∧ h'.get L = some (.loop 0 none 29 T0 [20, 21] A_record_All_0 B_record_All_0 D) ∧ RrF lo h' (dn ++ [o]) a' c' e' ∧ ∀ i, i < lo → i ≠ p4 → i ≠ p5 → i ≠ L → h'.get i = h.get i := by
  have yx : callX E X (M + 1) (.yld L) [.int .i64 (at' : Int), .agg [.int .i64 o.kind, .slice b o.l.length cb eb]] h = cYld (callX E X M) M L [.int .i64 (at' : Int), .agg [.int .i64 o.kind, .slice b o.l.length cb eb]] h := x_yld (x.yld _ _ _)
  rw [yx]
  have y4 : (L = p4) = False := by simp; omega
  have y4' : (p4 = L) = False := by simp; omega
  have y5 : (L = p5) = False := by simp; omega
  have y5' : (p5 = L) = False := by simp; omega
  obtain ⟨hA, eA⟩ : ∃ hA, (h.new (.cells [.int .i64 0, .slice none 0 (some 0) 0] .rw)).put h.next (.cells [.int .i64 o.kind, .slice b o.l.length cb eb] .rw) = hA := ⟨_, rfl⟩
  have nA : hA.next = h.next + 1 := by rw [← eA]; rfl
  have kA : Kp h hA := by rw [← eA]; (repeat (first | exact Kp.refl _ | refine Kp.put ?_ _ (by first | omega | (simp only [h_next_put, h_next_new, h_next_del]; omega)) | refine Kp.del ?_ (by first | omega | (simp only [h_next_put, h_next_new, h_next_del]; omega)) | refine Kp.trans ?_ (Kp.new _ _)))
  have gA : hA.get h.next = some (.cells [.int .i64 o.kind, .slice b o.l.length cb eb] .rw) := by rw [← eA]; exact h_put_same _ _ _
  have gAL : hA.get L = some (.loop 0 none 29 T0 [20, 21] A_record_All_0 B_record_All_0 D) := by rw [kA.2 _ (by omega), gL]
  obtain ⟨hB, eB⟩ : ∃ hB, hA.put L (.loop 1 none 29 T0 [20, 21] A_record_All_0 B_record_All_0 D) = hB := ⟨_, rfl⟩
  have nB : hB.next = h.next + 1 := by rw [← eB]; exact nA
  have fB : ∀ i, i < h.next → i ≠ L → hB.get i = h.get i := fun i hi hne => by rw [← eB, h_put_ne _ _ (Ne.symm hne), kA.2 _ hi]
  have gB : hB.get h.next = some (.cells [.int .i64 o.kind, .slice b o.l.length cb eb] .rw) := by rw [← eB, h_put_ne _ _ (by omega), gA]
  have gBL : hB.get L = some (.loop 1 none 29 T0 [20, 21] A_record_All_0 B_record_All_0 D) := by rw [← eB]; exact h_put_same _ _ _
  have gB4 : hB.get p4 = some (.cells [.slice a dn.length c ez] .rw) := by rw [fB _ (by omega) (Ne.symm zL4), g4]
  obtain ⟨hC, eC⟩ : ∃ hC, hB.new (.cells [.int .i64 o.kind, .slice b o.l.length cb eb] .rw) = hC := ⟨_, rfl⟩
  have kC : Kp hB hC := by rw [← eC]; exact Kp.new _ _
  have nC : hC.next = h.next + 2 := by rw [← eC, h_next_new, nB]
  have rowC : RrF lo hC dn a c ez := row.mono (by omega) (fun i h1 h2 => by rw [kC.2 _ (by omega), fB _ h2 (by omega)])
  have hsC : Ow hC o.l b eb := by
    by_cases ol : o.l = []
    · exact .inl ol
    · rcases hs with s | ⟨bi, m, f1, f2, f4, f5, f3⟩
      · exact .inl s
      · exact .inr ⟨bi, m, f1, f2, by rw [kC.2 _ (by omega), fB _ f3 (by have := (hb ol bi 0 f1).1; omega), f4], f5, by omega⟩
  obtain ⟨hD, ap, rowD, nD, fD⟩ := rap_row lo hC (by omega) dn hd a c ez rowC o b cb eb hsC hb
  have scC := src_r hB .i64 o.kind b o.l.length cb eb
  rw [eC] at scC
  have na4 : a ≠ some (p4, 0) := fun e => by have := (row.lt e).1; omega
  have na5 : a ≠ some (p5, 0) := fun e => by have := (row.lt e).1; omega
  have naL : a ≠ some (L, 0) := fun e => by have := (row.lt e).1; omega
  have gD4 : hD.get p4 = some (.cells [.slice a dn.length c ez] .rw) := by rw [fD _ (by omega) na4, kC.2 _ (by omega), gB4]
  have gD5 : hD.get p5 = some (.cells [.int .i64 n0] .rw) := by rw [fD _ (by omega) na5, kC.2 _ (by omega), fB _ (by omega) (Ne.symm zL5), g5]
  have gDL : hD.get L = some (.loop 1 none 29 T0 [20, 21] A_record_All_0 B_record_All_0 D) := by rw [fD _ (by omega) naL, kC.2 _ (by omega), gBL]
  obtain ⟨hE, eE⟩ : ∃ hE, ((hD.put p4 (.cells [.slice (some (hC.next, 0)) (dn.length + 1) none 2] .rw)).put p5 (.cells [.int .i64 (at' : Int)] .rw)).put L (.loop 0 none 29 T0 [20, 21] A_record_All_0 B_record_All_0 D) = hE := ⟨_, rfl⟩
  have z1 : (h.next = L) = False := by simp; omega
  have z2 : (p4 = p5) = False := by simp; omega
  have z3 : (p5 = p4) = False := by simp; omega
  have nE : hE.next = hD.next := by rw [← eE]; rfl
  refine ⟨hE, some (hC.next, 0), none, 2, ?_, by omega, by rw [← eE]; (simp (disch := omega) only [l_loop, l_succ, l_normal, l_normal, l_exit, l_ret, l_iteN, h_put_get, h_new_get, h_del_get, h_next_put, h_next_new, h_next_del, Nat.add_assoc, Nat.add_eq_left, Nat.left_eq_add, Nat.add_left_cancel_iff, s_load, m_load, m_load1, m_load1, m_st, m_stE, m_storeI, m_storeE, w_zero, w_succ, s_alloc, x_idxA, x_idxS, x_idxAE, x_idxSE, x_addrE, x_idx, x_lenS, s_len, x_buildS, x_buildE, x_P0, x_P1, x_fill0, x_filli, x_fills, x_fillb, c_int, List.length_cons, List.length_nil, List.cons_append, List.drop_succ_cons, List.drop_zero, List.drop_nil, List.nil_append, Int.reduceAdd, Int.reduceToNat, Int.reduceLT, Int.reduceLE, Nat.reduceAdd, Nat.reduceMul, Nat.reduceLeDiff, Int.reduceEq, Int.reduceSub, Int.cast_ofNat_Int, s_resc, s_consR, m_load4, m_store4, s_res0, decide_true, decide_false, iteN_true, iteN_false, Nat.reduceEqDiff, Nat.reduceAdd, reduceCtorEq, y4, z3]; try rfl), by rw [← eE]; (simp (disch := omega) only [l_loop, l_succ, l_normal, l_normal, l_exit, l_ret, l_iteN, h_put_get, h_new_get, h_del_get, h_next_put, h_next_new, h_next_del, Nat.add_assoc, Nat.add_eq_left, Nat.left_eq_add, Nat.add_left_cancel_iff, s_load, m_load, m_load1, m_load1, m_st, m_stE, m_storeI, m_storeE, w_zero, w_succ, s_alloc, x_idxA, x_idxS, x_idxAE, x_idxSE, x_addrE, x_idx, x_lenS, s_len, x_buildS, x_buildE, x_P0, x_P1, x_fill0, x_filli, x_fills, x_fillb, c_int, List.length_cons, List.length_nil, List.cons_append, List.drop_succ_cons, List.drop_zero, List.drop_nil, List.nil_append, Int.reduceAdd, Int.reduceToNat, Int.reduceLT, Int.reduceLE, Nat.reduceAdd, Nat.reduceMul, Nat.reduceLeDiff, Int.reduceEq, Int.reduceSub, Int.cast_ofNat_Int, s_resc, s_consR, m_load4, m_store4, s_res0, decide_true, decide_false, iteN_true, iteN_false, Nat.reduceEqDiff, Nat.reduceAdd, reduceCtorEq, y5]; try rfl), by rw [← eE]; exact h_put_same _ _ _, rowD.mono (by omega) (fun i h1 h2 => by rw [← eE, h_put_ne _ _ (by omega), h_put_ne _ _ (by omega), h_put_ne _ _ (by omega)]), fun i hi n4 n5 nL => by rw [← eE, h_put_ne _ _ (Ne.symm nL), h_put_ne _ _ (Ne.symm n5), h_put_ne _ _ (Ne.symm n4), fD _ (by omega) (fun e => by have := (row.lt e).1; omega), kC.2 _ (by omega), fB _ (by omega) nL]⟩
  simp (config := {maxSteps := 2000000}) (disch := first | omega | (simp only [List.length_cons, List.length_nil, List.length_append, List.length_drop]; omega)) only [g4, g5, gL, t4, t5, y4, y4', y5, y5', z1, z2, z3, m_storeS, st2i, st2ir, ld2, fl2, eA, gAL, eB, gB, gB4, eC, scC, ap, gD4, gD5, gDL, eE, y_cyld, y_ready, y_set2, y_mid, y_busy, y_end, y_done, y_jn, Option.isNone_none, ↓u_A_record_All_0, ↓u_B_record_All_0, ↓s_append, ↓b_xor32, ↓b_and32, ↓b_or32, ↓u_not32, b_xor32, b_and32, b_or32, u_not32, w32ad, ↓x_conv, x_convV, ↓x_fieldAddr, x_fieldV, ↓s_nilchk, x_nilchk, Nat.zero_add, Nat.add_zero, Nat.mul_one, ↓s_evD, ↓s_dnil, ↓s_dL, ↓s_dLg, ↓s_dR, ↓s_dRg, ↓s_dRj, ↓s_dRjg, ↓s_dB, ↓s_dBg, ↓s_dAlloc, ↓s_bindD, s_bindD, s_finD, s_finDx, s_addP0, s_addP1, s_addB, s_lookP, ↓s_bump0, ↓s_bump_get, s_bump_next, s_ok0, ↓s_ok1, s_okR0, ↓s_okR1, ↓s_okE, s_okE, s_okE1, s_nth0, s_nthS, Nat.add_zero, Bool.and_self, Bool.and_true, Bool.true_and, ↓l_loop, ↓l_succ, ↓l_normal, l_normal, l_exit, l_ret, l_iteN, ↓h_put_get, ↓h_new_get, ↓h_del_get, h_next_put, h_next_new, h_next_del, Nat.add_assoc, Nat.add_eq_left, Nat.left_eq_add, Nat.add_left_cancel_iff, ↓s_load, m_load, ↓m_load1, m_load1, ↓m_st, m_stE, m_storeI, m_storeE, w_zero, w_succ, ↓s_alloc, ↓x_idxA, ↓x_idxS, x_idxAE, x_idxSE, x_addrE, x_idx, x_lenS, ↓s_len, ↓x_buildS, x_buildE, ↓x_P0, ↓x_P1, x_fill0, x_filli, x_fills, x_fillb, c_int, List.length_cons, List.length_nil, List.cons_append, List.drop_succ_cons, List.drop_zero, List.drop_nil, List.nil_append, Int.reduceAdd, Int.reduceToNat, Int.reduceLT, Int.reduceLE, Nat.reduceAdd, Nat.reduceMul, Nat.reduceLeDiff, Int.reduceEq, Int.reduceSub, Int.cast_ofNat_Int, s_resc, s_consR, m_load4, m_store4, s_res0, ↓s_skip, ↓s_ops, ↓s_dops, ↓s_seq, ↓s_cond, ↓s_block, ↓s_exit, ↓s_ret, ↓s_scope, ↓s_nil, ↓s_op, ↓s_opg, ↓s_wanted', ↓s_wantV, s_wantV, s_wantV0, beq_true, beq_false, ↓s_bindS, s_bindS, ↓s_bindE, s_bindE, s_bindE_ret, s_bindE_exit, s_bindE_iteN, s_norm, ↓s_condV, s_condV, s_block_ret, s_block_normal, s_block_exit, s_block_iteN, ↓s_getp, ↓s_getp0, ↓s_get, s_get0, ↓s_con, ↓s_fn, ↓s_os0, ↓s_os1, ↓s_list0, ↓s_list1, ↓s_mov, ↓s_pick, ↓s_pickE, s_pickE, ↓s_bin, ↓s_un, ↓s_minmax, ↓s_call, ↓s_callv, ↓s_callV, ↓s_ext, s_same, b_eql, b_neq, b_lss, b_leq, b_gtr, b_geq, b_add, b_sub, b_mul, b_eqlb, b_neqb, b_fnil, b_fnil', b_fnil2, b_fnil2', u_neg, u_not, m_two, s_end, s_end', s_end_iteN, s_res0, s_res1, s_tup1, s_tup2, ↓iteN_true, ↓iteN_false, iteN_true, iteN_false, Nat.zero_add, List.nil_append, List.append_nil, Nat.reduceEqDiff, reduceIte, decide_true, decide_false, Bool.not_true, Bool.not_false, List.getElem?_cons_zero, List.getElem?_cons_succ, Bool.false_eq_true, if_true, if_false, beq_self_eq_true]
end Go.Eng
namespace Go.Eng
open Go
variable {E : Nat → Option Fn} {X : Orc}
set_option linter.unusedSimpArgs false
set_option linter.unusedVariables false
/-- all records that stand ahead, and how many bytes they have -/
def rdV : Nat → List Nat → List Rq × Nat
  | 0, _ => ([], 0)
  | n + 1, b => match dcV b with
    | none => ([], 0)
    | some (o, k) => (o :: (rdV n (b.drop k)).1, k + (rdV n (b.drop k)).2)
theorem rd_succ (n : Nat) (b : List Nat) : rdV (n + 1) b = (match dcV b with
    | none => ([], 0)
    | some (o, k) => (o :: (rdV n (b.drop k)).1, k + (rdV n (b.drop k)).2)) := rfl
structure RaI (hB : H) (L p4 p5 pa lo D : Nat) (T0 : Tr V) (dn : List Rq) (at_ : Nat) (h : H) : Prop where
  st : ∃ a c e, h.get p4 = some (.cells [.slice a dn.length c e] .rw) ∧ RrF lo h dn a c e
  g5 : h.get p5 = some (.cells [.int .i64 (at_ : Int)] .rw)
  ga : h.get pa = some (.cells [.int .i64 (at_ : Int)] .rw)
  gL : h.get L = some (.loop 0 none 29 T0 [20, 21] A_record_All_0 B_record_All_0 D)
  nx : lo ≤ h.next
  fr : ∀ i, i < lo → i ≠ p4 → i ≠ p5 → i ≠ pa → i ≠ L → h.get i = hB.get i
theorem ra_walk (ed : E k_record_Decode = some f_record_Decode) (ef : E k_record_readHead = some f_record_readHead) (e : EnCm E) (x : NoCm X) (xy : NoRcd X) (xd : ∀ a h, X (.fn k_record_Decode) a h = none) (xh : ∀ a h, X (.fn k_record_readHead) a h = none) (M : Nat) (hM : 50100 < M) (hB : H) (L p4 p5 pa ps lo D : Nat) (T0 : Tr V) (t4 : evO T0 (.t 4) = .ptr (some (p4, 0))) (t5 : evO T0 (.t 5) = .ptr (some (p5, 0))) (hp4 : p4 < lo) (hp5 : p5 < lo) (hpa : pa < lo) (hL : L < lo) (hps : ps < lo) (z45 : p4 ≠ p5) (zL4 : L ≠ p4) (zL5 : L ≠ p5) (a4 : pa ≠ p4) (a5 : pa ≠ p5) (aL : pa ≠ L) (s4 : ps ≠ p4) (s5 : ps ≠ p5) (sa : ps ≠ pa) (sL : ps ≠ L)
    (s : List Nat) (bs : byt s = true) (hs : s.length ≤ 50000) (a : Option (Nat × Nat)) (c : Option Nat) (ez : Nat) (sb : SB s a c ez) (md : Md) (gs : hB.get ps = some (.cells [.slice a s.length c ez] md)) (src : ∀ h : H, lo ≤ h.next → (∀ i, i < lo → i ≠ p4 → i ≠ p5 → i ≠ pa → i ≠ L → h.get i = hB.get i) → SrcH h a ez s) :
    ∀ (n g : Nat) (dn : List Rq) (at_ : Nat) (T : Tr V) (h : H), s.length - at_ ≤ n → n + 1 < g → at_ ≤ s.length → dn.length ≤ at_ → evO T (.t 0) = .yld L → evO T (.t 1) = .ptr (some (ps, 0)) → evO T (.t 2) = .ptr (some (pa, 0)) → RaI hB L p4 p5 pa lo D T0 dn at_ h →
    ∃ T' h', loopN (evC (callX E X (M + 22)) 24 (M + 22) none L_record_records_1_0) g ⟨T, [], h⟩ = some (.exit 0, ⟨T', [], h'⟩) ∧ RaI hB L p4 p5 pa lo D T0 (dn ++ (rdV n (s.drop at_)).1) (at_ + (rdV n (s.drop at_)).2) h' ∧ h.next ≤ h'.next := by
  -- a place where no record stands
  have stop : ∀ (dn : List Rq) (at_ : Nat) (T : Tr V) (h : H), at_ ≤ s.length → evO T (.t 0) = .yld L → evO T (.t 1) = .ptr (some (ps, 0)) → evO T (.t 2) = .ptr (some (pa, 0)) → RaI hB L p4 p5 pa lo D T0 dn at_ h → dcV (s.drop at_) = none → ∃ T' h', evC (callX E X (M + 22)) 24 (M + 22) none L_record_records_1_0 ⟨T, [], h⟩ = some (.exit 0, ⟨T', [], h'⟩) ∧ RaI hB L p4 p5 pa lo D T0 dn at_ h' ∧ h.next ≤ h'.next := by
    intro dn at_ T h hat t0 t1 t2 I hd
    have gs' : h.get ps = some (.cells [.slice a s.length c ez] md) := by rw [I.fr _ hps s4 s5 sa sL, gs]
    obtain ⟨h1, k1, r1⟩ := decode_goB ed ef e x xd xh M hM s bs hs at_ hat a c ez sb h (src h I.nx I.fr)
    rw [hd] at r1
    replace r1 : callX E X (M + 22) (.fn k_record_Decode) [.slice a s.length c ez, .int .i64 (at_ : Int)] h = some (.tup [.agg [.int .i64 0, .slice none 0 (some 0) 0], .int .i64 0, .int .i64 160], h1) := r1
    have ga := I.ga
    have z0 : decide ((160 : Int) = 0) = false := rfl
    obtain ⟨h2, eh2⟩ : ∃ h2, (h1.new (.cells [.int .i64 0, .slice none 0 (some 0) 0] .rw)).put h1.next (.cells [.int .i64 0, .slice none 0 (some 0) 0] .rw) = h2 := ⟨_, rfl⟩
    have k2 : Kp h h2 := k1.trans (by rw [← eh2]; (repeat (first | exact Kp.refl _ | refine Kp.put ?_ _ (by first | omega | (simp only [h_next_put, h_next_new, h_next_del]; omega)) | refine Kp.del ?_ (by first | omega | (simp only [h_next_put, h_next_new, h_next_del]; omega)) | refine Kp.trans ?_ (Kp.new _ _))))
    have nx := I.nx
    have kn := k2.1
    have I2 : RaI hB L p4 p5 pa lo D T0 dn at_ h2 := by
      obtain ⟨⟨ar, cr, er, g4, row⟩, g5, ga, gL, nx, fr⟩ := I
      exact ⟨⟨ar, cr, er, by rw [k2.2 _ (by omega), g4], row.kp k2⟩, by rw [k2.2 _ (by omega), g5], by rw [k2.2 _ (by omega), ga], by rw [k2.2 _ (by omega), gL], by omega, fun i h1 h2 h3 h4 h5 => by rw [k2.2 _ (by omega), fr i h1 h2 h3 h4 h5]⟩
    obtain ⟨sl, esl⟩ : ∃ k, s.length = k := ⟨_, rfl⟩
    rw [esl] at gs' r1
    exact ⟨_, h2, by
      simp (config := {maxSteps := 2000000}) (disch := first | omega | (simp only [List.length_cons, List.length_nil, List.length_append, List.length_drop]; omega)) only [L_record_records_1_0, t0, t1, t2, gs', ga, r1, eh2, z0, st2i, st2ir, ld2, Bool.not_false, ↓b_xor32, ↓b_and32, ↓b_or32, ↓u_not32, b_xor32, b_and32, b_or32, u_not32, w32ad, ↓x_conv, x_convV, ↓x_fieldAddr, x_fieldV, ↓s_nilchk, x_nilchk, Nat.zero_add, Nat.add_zero, Nat.mul_one, ↓s_evD, ↓s_dnil, ↓s_dL, ↓s_dLg, ↓s_dR, ↓s_dRg, ↓s_dRj, ↓s_dRjg, ↓s_dB, ↓s_dBg, ↓s_dAlloc, ↓s_bindD, s_bindD, s_finD, s_finDx, s_addP0, s_addP1, s_addB, s_lookP, ↓s_bump0, ↓s_bump_get, s_bump_next, s_ok0, ↓s_ok1, s_okR0, ↓s_okR1, ↓s_okE, s_okE, s_okE1, s_nth0, s_nthS, Nat.add_zero, Bool.and_self, Bool.and_true, Bool.true_and, ↓l_loop, ↓l_succ, ↓l_normal, l_normal, l_exit, l_ret, l_iteN, ↓h_put_get, ↓h_new_get, ↓h_del_get, h_next_put, h_next_new, h_next_del, Nat.add_assoc, Nat.add_eq_left, Nat.left_eq_add, Nat.add_left_cancel_iff, ↓s_load, m_load, ↓m_load1, m_load1, ↓m_st, m_stE, m_storeI, m_storeE, w_zero, w_succ, ↓s_alloc, ↓x_idxA, ↓x_idxS, x_idxAE, x_idxSE, x_addrE, x_idx, x_lenS, ↓s_len, ↓x_buildS, x_buildE, ↓x_P0, ↓x_P1, x_fill0, x_filli, x_fills, x_fillb, c_int, List.length_cons, List.length_nil, List.cons_append, List.drop_succ_cons, List.drop_zero, List.drop_nil, List.nil_append, Int.reduceAdd, Int.reduceToNat, Int.reduceLT, Int.reduceLE, Nat.reduceAdd, Nat.reduceMul, Nat.reduceLeDiff, Int.reduceEq, Int.reduceSub, Int.cast_ofNat_Int, s_resc, s_consR, m_load4, m_store4, s_res0, ↓s_skip, ↓s_ops, ↓s_dops, ↓s_seq, ↓s_cond, ↓s_block, ↓s_exit, ↓s_ret, ↓s_scope, ↓s_nil, ↓s_op, ↓s_opg, ↓s_wanted', ↓s_wantV, s_wantV, s_wantV0, beq_true, beq_false, ↓s_bindS, s_bindS, ↓s_bindE, s_bindE, s_bindE_ret, s_bindE_exit, s_bindE_iteN, s_norm, ↓s_condV, s_condV, s_block_ret, s_block_normal, s_block_exit, s_block_iteN, ↓s_getp, ↓s_getp0, ↓s_get, s_get0, ↓s_con, ↓s_fn, ↓s_os0, ↓s_os1, ↓s_list0, ↓s_list1, ↓s_mov, ↓s_pick, ↓s_pickE, s_pickE, ↓s_bin, ↓s_un, ↓s_minmax, ↓s_call, ↓s_callv, ↓s_callV, ↓s_ext, s_same, b_eql, b_neq, b_lss, b_leq, b_gtr, b_geq, b_add, b_sub, b_mul, b_eqlb, b_neqb, b_fnil, b_fnil', b_fnil2, b_fnil2', u_neg, u_not, m_two, s_end, s_end', s_end_iteN, s_res0, s_res1, s_tup1, s_tup2, ↓iteN_true, ↓iteN_false, iteN_true, iteN_false, Nat.zero_add, List.nil_append, List.append_nil, Nat.reduceEqDiff, reduceIte, decide_true, decide_false, Bool.not_true, Bool.not_false, List.getElem?_cons_zero, List.getElem?_cons_succ, Bool.false_eq_true, if_true, if_false, beq_self_eq_true]
      exact rfl, I2, by omega⟩
  have small : ∀ at_, at_ ≤ s.length → s.length - at_ = 0 → dcV (s.drop at_) = none := fun at_ h1 h2 => by
    unfold dcV
    rw [if_pos (by rw [List.length_drop]; omega)]
  intro n
  induction n with
  | zero =>
    intro g dn at_ T h hn hg hat hdn t0 t1 t2 I
    obtain ⟨g, rfl⟩ : ∃ k, g = k + 1 := ⟨g - 1, by omega⟩
    obtain ⟨T', h', r, J, nx⟩ := stop dn at_ T h hat t0 t1 t2 I (small at_ hat (by omega))
    refine ⟨T', h', by rw [l_succ, r]; rfl, ?_, nx⟩
    show RaI hB L p4 p5 pa lo D T0 (dn ++ []) (at_ + 0) h'
    rw [List.append_nil]; exact J
  | succ n ih =>
    intro g dn at_ T h hn hg hat hdn t0 t1 t2 I
    obtain ⟨g, rfl⟩ : ∃ k, g = k + 1 := ⟨g - 1, by omega⟩
    rw [rd_succ]
    cases hf : dcV (s.drop at_) with
    | none =>
      obtain ⟨T', h', r, J, nx⟩ := stop dn at_ T h hat t0 t1 t2 I hf
      refine ⟨T', h', by rw [l_succ, r]; rfl, ?_, nx⟩
      show RaI hB L p4 p5 pa lo D T0 (dn ++ []) (at_ + 0) h'
      rw [List.append_nil]; exact J
    | some z =>
      obtain ⟨o, k⟩ := z
      have gs' : h.get ps = some (.cells [.slice a s.length c ez] md) := by rw [I.fr _ hps s4 s5 sa sL, gs]
      obtain ⟨h1, k1, r1⟩ := decode_goB ed ef e x xd xh M hM s bs hs at_ hat a c ez sb h (src h I.nx I.fr)
      rw [hf] at r1
      obtain ⟨a2, c2, e2, r1, wb2, ge2⟩ := r1
      obtain ⟨f1, f2, f3, f4, f5⟩ := dc_of _ (byt_drop bs _) o k hf
      rw [List.length_drop] at f5
      have ga := I.ga
      have nx := I.nx
      have kn1 := k1.1
      obtain ⟨h2, eh2⟩ : ∃ h2, (h1.new (.cells [.int .i64 0, .slice none 0 (some 0) 0] .rw)).put h1.next (.cells [.int .i64 o.kind, .slice a2 o.l.length c2 e2] .rw) = h2 := ⟨_, rfl⟩
      have k12 : Kp h1 h2 := by rw [← eh2]; (repeat (first | exact Kp.refl _ | refine Kp.put ?_ _ (by first | omega | (simp only [h_next_put, h_next_new, h_next_del]; omega)) | refine Kp.del ?_ (by first | omega | (simp only [h_next_put, h_next_new, h_next_del]; omega)) | refine Kp.trans ?_ (Kp.new _ _)))
      have k2 : Kp h h2 := k1.trans k12
      have kn2 := k2.1
      have g2 : h2.get h1.next = some (.cells [.int .i64 o.kind, .slice a2 o.l.length c2 e2] .rw) := by rw [← eh2]; exact h_put_same _ _ _
      obtain ⟨⟨ar, cr, er, g4, row⟩, g5, _, gL, _, fr⟩ := I
      obtain ⟨h3, a3, c3, e3, yr, yn, y4, y5, yL, yrow, yfr⟩ := ry_go (E := E) xy (M + 21) L p4 p5 D lo T0 t4 t5 hp4 hp5 hL z45 zL4 zL5 h2 (by omega) dn (by omega) ar cr er (at_ : Int) (by rw [k2.2 _ (by omega), g4]) (by rw [k2.2 _ (by omega), g5]) (by rw [k2.2 _ (by omega), gL]) (row.kp k2) o a2 c2 e2 (wb2.ow.kp k12) (fun _ q z eq => ⟨by have := ge2 q z eq; omega, fun e => by have := (row.lt e).2; have := ge2 q z eq; omega⟩) (at_ + k)
      have ga3 : h3.get pa = some (.cells [.int .i64 (at_ : Int)] .rw) := by rw [yfr _ hpa a4 a5 aL, k2.2 _ (by omega), ga]
      obtain ⟨h4, eh4⟩ : ∃ h4, h3.put pa (.cells [.int .i64 ((at_ + k : Nat) : Int)] .rw) = h4 := ⟨_, rfl⟩
      have n4 : h4.next = h3.next := by rw [← eh4]; rfl
      have f4' : ∀ i, i ≠ pa → h4.get i = h3.get i := fun i hi => by rw [← eh4, h_put_ne _ _ (Ne.symm hi)]
      have I4 : RaI hB L p4 p5 pa lo D T0 (dn ++ [o]) (at_ + k) h4 := ⟨⟨a3, c3, e3, by rw [f4' _ (Ne.symm a4), y4, List.length_append]; rfl, yrow.mono (by omega) (fun i h1 h2 => f4' i (by omega))⟩, by rw [f4' _ (Ne.symm a5), y5], by rw [← eh4]; exact h_put_same _ _ _, by rw [f4' _ (Ne.symm aL), yL], by omega, fun i h1 h2 h3 h4' h5 => by rw [f4' i h4', yfr i h1 h2 h3 h5, k2.2 _ (by omega), fr i h1 h2 h3 h4' h5]⟩
      have z0 : decide ((0 : Int) = 0) = true := rfl
      obtain ⟨T1, eT, u0, u1, u2⟩ : ∃ T1, evC (callX E X (M + 22)) 24 (M + 22) none L_record_records_1_0 ⟨T, [], h⟩ = some (.normal, ⟨T1, [], h4⟩) ∧ evO T1 (.t 0) = .yld L ∧ evO T1 (.t 1) = .ptr (some (ps, 0)) ∧ evO T1 (.t 2) = .ptr (some (pa, 0)) := by
        obtain ⟨sl, esl⟩ : ∃ k, s.length = k := ⟨_, rfl⟩
        rw [esl] at gs' r1
        obtain ⟨ak, eak⟩ : ∃ q, at_ + k = q := ⟨_, rfl⟩
        rw [eak] at r1 yr eh4
        obtain ⟨ol, eol⟩ : ∃ q, o.l.length = q := ⟨_, rfl⟩
        rw [eol] at r1 yr eh2 g2
        refine ⟨_, by
          simp (config := {maxSteps := 2000000}) (disch := first | omega | (simp only [List.length_cons, List.length_nil, List.length_append, List.length_drop]; omega)) only [L_record_records_1_0, t0, t1, t2, gs', ga, r1, eh2, g2, z0, yr, ga3, eh4, s_callVy, st2i, st2ir, ld2, Bool.not_true, ↓b_xor32, ↓b_and32, ↓b_or32, ↓u_not32, b_xor32, b_and32, b_or32, u_not32, w32ad, ↓x_conv, x_convV, ↓x_fieldAddr, x_fieldV, ↓s_nilchk, x_nilchk, Nat.zero_add, Nat.add_zero, Nat.mul_one, ↓s_evD, ↓s_dnil, ↓s_dL, ↓s_dLg, ↓s_dR, ↓s_dRg, ↓s_dRj, ↓s_dRjg, ↓s_dB, ↓s_dBg, ↓s_dAlloc, ↓s_bindD, s_bindD, s_finD, s_finDx, s_addP0, s_addP1, s_addB, s_lookP, ↓s_bump0, ↓s_bump_get, s_bump_next, s_ok0, ↓s_ok1, s_okR0, ↓s_okR1, ↓s_okE, s_okE, s_okE1, s_nth0, s_nthS, Nat.add_zero, Bool.and_self, Bool.and_true, Bool.true_and, ↓l_loop, ↓l_succ, ↓l_normal, l_normal, l_exit, l_ret, l_iteN, ↓h_put_get, ↓h_new_get, ↓h_del_get, h_next_put, h_next_new, h_next_del, Nat.add_assoc, Nat.add_eq_left, Nat.left_eq_add, Nat.add_left_cancel_iff, ↓s_load, m_load, ↓m_load1, m_load1, ↓m_st, m_stE, m_storeI, m_storeE, w_zero, w_succ, ↓s_alloc, ↓x_idxA, ↓x_idxS, x_idxAE, x_idxSE, x_addrE, x_idx, x_lenS, ↓s_len, ↓x_buildS, x_buildE, ↓x_P0, ↓x_P1, x_fill0, x_filli, x_fills, x_fillb, c_int, List.length_cons, List.length_nil, List.cons_append, List.drop_succ_cons, List.drop_zero, List.drop_nil, List.nil_append, Int.reduceAdd, Int.reduceToNat, Int.reduceLT, Int.reduceLE, Nat.reduceAdd, Nat.reduceMul, Nat.reduceLeDiff, Int.reduceEq, Int.reduceSub, Int.cast_ofNat_Int, s_resc, s_consR, m_load4, m_store4, s_res0, ↓s_skip, ↓s_ops, ↓s_dops, ↓s_seq, ↓s_cond, ↓s_block, ↓s_exit, ↓s_ret, ↓s_scope, ↓s_nil, ↓s_op, ↓s_opg, ↓s_wanted', ↓s_wantV, s_wantV, s_wantV0, beq_true, beq_false, ↓s_bindS, s_bindS, ↓s_bindE, s_bindE, s_bindE_ret, s_bindE_exit, s_bindE_iteN, s_norm, ↓s_condV, s_condV, s_block_ret, s_block_normal, s_block_exit, s_block_iteN, ↓s_getp, ↓s_getp0, ↓s_get, s_get0, ↓s_con, ↓s_fn, ↓s_os0, ↓s_os1, ↓s_list0, ↓s_list1, ↓s_mov, ↓s_pick, ↓s_pickE, s_pickE, ↓s_bin, ↓s_un, ↓s_minmax, ↓s_call, ↓s_callv, ↓s_callV, ↓s_ext, s_same, b_eql, b_neq, b_lss, b_leq, b_gtr, b_geq, b_add, b_sub, b_mul, b_eqlb, b_neqb, b_fnil, b_fnil', b_fnil2, b_fnil2', u_neg, u_not, m_two, s_end, s_end', s_end_iteN, s_res0, s_res1, s_tup1, s_tup2, ↓iteN_true, ↓iteN_false, iteN_true, iteN_false, Nat.zero_add, List.nil_append, List.append_nil, Nat.reduceEqDiff, reduceIte, decide_true, decide_false, Bool.not_true, Bool.not_false, List.getElem?_cons_zero, List.getElem?_cons_succ, Bool.false_eq_true, if_true, if_false, beq_self_eq_true]
          exact rfl, (by (simp only [s_getp, s_getp0, Nat.reduceEqDiff, decide_false, decide_true, iteN_false, iteN_true, t0]; try rfl)), (by (simp only [s_getp, s_getp0, Nat.reduceEqDiff, decide_false, decide_true, iteN_false, iteN_true, t1]; try rfl)), (by (simp only [s_getp, s_getp0, Nat.reduceEqDiff, decide_false, decide_true, iteN_false, iteN_true, t2]; try rfl))⟩
      obtain ⟨T', h', r, q2, q3⟩ := ih g (dn ++ [o]) (at_ + k) T1 h4 (by omega) (by omega) (by omega) (by rw [List.length_append]; simp; omega) u0 u1 u2 I4
      refine ⟨T', h', by rw [l_succ, eT, l_normal]; exact r, ?_, by omega⟩
      simp only
      rw [List.append_assoc] at q2
      rw [List.drop_drop]
      rw [show [o] ++ (rdV n (s.drop (at_ + k))).1 = o :: (rdV n (s.drop (at_ + k))).1 from rfl, Nat.add_assoc] at q2
      exact q2
end Go.Eng
namespace Go.Eng
open Go
variable {E : Nat → Option Fn} {X : Orc}
set_option linter.unusedSimpArgs false
set_option linter.unusedVariables false
structure EnRd (E : Nat → Option Fn) : Prop where
  cm : EnCm E
  de : E k_record_Decode = some f_record_Decode
  rh : E k_record_readHead = some f_record_readHead
  en : E k_record_Encode = some f_record_Encode
  ck : E k_record_Check = some f_record_Check
  hd : E k_record_head = some f_record_head
  al : E k_record_All = some f_record_All
  rs : E k_record_records = some f_record_records
  r1 : E k_record_records_1 = some f_record_records_1
structure NoRd (X : Orc) : Prop where
  cm : NoCm X
  y : NoRcd X
  de : ∀ a h, X (.fn k_record_Decode) a h = none
  rh : ∀ a h, X (.fn k_record_readHead) a h = none
  en : ∀ a h, X (.fn k_record_Encode) a h = none
  ck : ∀ a h, X (.fn k_record_Check) a h = none
  hd : ∀ a h, X (.fn k_record_head) a h = none
  al : ∀ a h, X (.fn k_record_All) a h = none
  rs : ∀ a h, X (.fn k_record_records) a h = none
  r1 : ∀ a h, X (.fn k_record_records_1) a h = none
theorem recs_go (e : EnRd E) (x : NoRd X) (N : Nat) (a : Option (Nat × Nat)) (n : Nat) (c : Option Nat) (ez : Nat) (at_ : Int) (h : H) :
    callX E X (N + 1) (.fn k_record_records) [.slice a n c ez, .int .i64 at_] h = some (.fn k_record_records_1 [] [.ptr (some (h.next, 0)), .ptr (some (h.next + 1, 0))], (h.new (.cells [.slice a n c ez] .rw)).new (.cells [.int .i64 at_] .rw)) := by
  rw [x_cfn e.rs _ _ (Nat.le_of_ble_eq_true rfl) (x.rs _ _)]
  have c1 : (V.slice a n c ez).cells = [.slice a n c ez] := rfl
  have c2 : (V.int .i64 at_).cells = [.int .i64 at_] := rfl
  simp (config := {maxSteps := 2000000}) (disch := first | omega | (simp only [List.length_cons, List.length_nil, List.length_append, List.length_drop]; omega)) only [c1, c2, ↓s_box, ↓s_mkfn, ↓b_xor32, ↓b_and32, ↓b_or32, ↓u_not32, b_xor32, b_and32, b_or32, u_not32, w32ad, ↓x_conv, x_convV, ↓x_fieldAddr, x_fieldV, ↓s_nilchk, x_nilchk, Nat.zero_add, Nat.add_zero, Nat.mul_one, ↓l_loop, ↓l_succ, ↓l_normal, l_normal, l_exit, l_ret, l_iteN, ↓h_put_get, ↓h_new_get, ↓h_del_get, h_next_put, h_next_new, h_next_del, Nat.add_assoc, Nat.add_eq_left, Nat.left_eq_add, Nat.add_left_cancel_iff, ↓s_load, m_load, ↓m_load1, m_load1, ↓m_st, m_stE, m_storeI, m_storeE, w_zero, w_succ, ↓s_alloc, ↓x_idxA, ↓x_idxS, x_idxAE, x_idxSE, x_addrE, x_idx, x_lenS, ↓s_len, ↓x_buildS, x_buildE, ↓x_P0, ↓x_P1, x_fill0, x_filli, x_fills, x_fillb, c_int, List.length_cons, List.length_nil, List.cons_append, List.drop_succ_cons, List.drop_zero, List.drop_nil, List.nil_append, Int.reduceAdd, Int.reduceToNat, Int.reduceLT, Int.reduceLE, Nat.reduceAdd, Nat.reduceMul, Nat.reduceLeDiff, Int.reduceEq, Int.reduceSub, Int.cast_ofNat_Int, s_resc, s_consR, m_load4, m_store4, s_res0, ↓s_skip, ↓s_ops, ↓s_dops, ↓s_seq, ↓s_cond, ↓s_block, ↓s_exit, ↓s_ret, ↓s_scope, ↓s_nil, ↓s_op, ↓s_opg, ↓s_wanted', ↓s_wantV, s_wantV, s_wantV0, beq_true, beq_false, ↓s_bindS, s_bindS, ↓s_bindE, s_bindE, s_bindE_ret, s_bindE_exit, s_bindE_iteN, s_norm, ↓s_condV, s_condV, s_block_ret, s_block_normal, s_block_exit, s_block_iteN, ↓s_getp, ↓s_getp0, ↓s_get, s_get0, ↓s_con, ↓s_fn, ↓s_os0, ↓s_os1, ↓s_list0, ↓s_list1, ↓s_mov, ↓s_pick, ↓s_pickE, s_pickE, ↓s_bin, ↓s_un, ↓s_minmax, ↓s_call, ↓s_callv, ↓s_callV, ↓s_ext, s_same, b_eql, b_neq, b_lss, b_leq, b_gtr, b_geq, b_add, b_sub, b_mul, b_eqlb, b_neqb, b_fnil, b_fnil', b_fnil2, b_fnil2', u_neg, u_not, m_two, s_end, s_end', s_end_iteN, s_res0, s_res1, s_tup1, s_tup2, ↓iteN_true, ↓iteN_false, iteN_true, iteN_false, Nat.zero_add, List.nil_append, List.append_nil, Nat.reduceEqDiff, reduceIte, decide_true, decide_false, Bool.not_true, Bool.not_false, List.getElem?_cons_zero, List.getElem?_cons_succ, Bool.false_eq_true, if_true, if_false, beq_self_eq_true]
theorem rec1_go (e : EnRd E) (x : NoRd X) (M : Nat) (hM : 50100 < M) (hB : H) (L p4 p5 pa ps lo D : Nat) (T0 : Tr V) (t4 : evO T0 (.t 4) = .ptr (some (p4, 0))) (t5 : evO T0 (.t 5) = .ptr (some (p5, 0))) (hp4 : p4 < lo) (hp5 : p5 < lo) (hpa : pa < lo) (hL : L < lo) (hps : ps < lo) (z45 : p4 ≠ p5) (zL4 : L ≠ p4) (zL5 : L ≠ p5) (a4 : pa ≠ p4) (a5 : pa ≠ p5) (aL : pa ≠ L) (s4 : ps ≠ p4) (s5 : ps ≠ p5) (sa : ps ≠ pa) (sL : ps ≠ L)
    (s : List Nat) (bs : byt s = true) (hs : s.length ≤ 50000) (a : Option (Nat × Nat)) (c : Option Nat) (ez : Nat) (sb : SB s a c ez) (md : Md) (gs : hB.get ps = some (.cells [.slice a s.length c ez] md)) (src : ∀ h : H, lo ≤ h.next → (∀ i, i < lo → i ≠ p4 → i ≠ p5 → i ≠ pa → i ≠ L → h.get i = hB.get i) → SrcH h a ez s) (at_ : Nat) (hat : at_ ≤ s.length) (I : RaI hB L p4 p5 pa lo D T0 [] at_ hB) :
    ∃ h', callX E X (M + 23) (.fn k_record_records_1) [.yld L, .ptr (some (ps, 0)), .ptr (some (pa, 0))] hB = some (.tup [], h') ∧ RaI hB L p4 p5 pa lo D T0 (rdV s.length (s.drop at_)).1 (at_ + (rdV s.length (s.drop at_)).2) h' ∧ hB.next ≤ h'.next := by
  have fin : ∀ T, evO T (.t 0) = .yld L → evO T (.t 1) = .ptr (some (ps, 0)) → evO T (.t 2) = .ptr (some (pa, 0)) → ∃ h', fnEnd [] (blockE 0 (loopN (evC (callX E X (M + 22)) 24 (M + 22) none L_record_records_1_0) (M + 22) ⟨T, [], hB⟩)) = some (.tup [], h') ∧ RaI hB L p4 p5 pa lo D T0 (rdV s.length (s.drop at_)).1 (at_ + (rdV s.length (s.drop at_)).2) h' ∧ hB.next ≤ h'.next := by
    intro T t0 t1 t2
    obtain ⟨T', h', r, q2, q3⟩ := ra_walk e.de e.rh e.cm x.cm x.y x.de x.rh M hM hB L p4 p5 pa ps lo D T0 t4 t5 hp4 hp5 hpa hL hps z45 zL4 zL5 a4 a5 aL s4 s5 sa sL s bs hs a c ez sb md gs src s.length (M + 22) [] at_ T hB (by omega) (by omega) hat (by simp) t0 t1 t2 I
    rw [List.nil_append] at q2
    refine ⟨h', ?_, q2, q3⟩
    rw [r]; rfl
  obtain ⟨Lo, eL⟩ : ∃ R, L_record_records_1_0 = R := ⟨_, rfl⟩
  rw [x_cfn e.r1 _ _ (Nat.le_of_ble_eq_true rfl) (x.r1 _ _)]
  rw [eL] at fin ⊢
  simp (config := {maxSteps := 2000000}) (disch := first | omega | (simp only [List.length_cons, List.length_nil, List.length_append, List.length_drop]; omega)) only [↓b_xor32, ↓b_and32, ↓b_or32, ↓u_not32, b_xor32, b_and32, b_or32, u_not32, w32ad, ↓x_conv, x_convV, ↓x_fieldAddr, x_fieldV, ↓s_nilchk, x_nilchk, Nat.zero_add, Nat.add_zero, Nat.mul_one, ↓l_loop, ↓l_succ, ↓l_normal, l_normal, l_exit, l_ret, l_iteN, ↓h_put_get, ↓h_new_get, ↓h_del_get, h_next_put, h_next_new, h_next_del, Nat.add_assoc, Nat.add_eq_left, Nat.left_eq_add, Nat.add_left_cancel_iff, ↓s_load, m_load, ↓m_load1, m_load1, ↓m_st, m_stE, m_storeI, m_storeE, w_zero, w_succ, ↓s_alloc, ↓x_idxA, ↓x_idxS, x_idxAE, x_idxSE, x_addrE, x_idx, x_lenS, ↓s_len, ↓x_buildS, x_buildE, ↓x_P0, ↓x_P1, x_fill0, x_filli, x_fills, x_fillb, c_int, List.length_cons, List.length_nil, List.cons_append, List.drop_succ_cons, List.drop_zero, List.drop_nil, List.nil_append, Int.reduceAdd, Int.reduceToNat, Int.reduceLT, Int.reduceLE, Nat.reduceAdd, Nat.reduceMul, Nat.reduceLeDiff, Int.reduceEq, Int.reduceSub, Int.cast_ofNat_Int, s_resc, s_consR, m_load4, m_store4, s_res0, ↓s_skip, ↓s_ops, ↓s_dops, ↓s_seq, ↓s_cond, ↓s_block, ↓s_exit, ↓s_ret, ↓s_scope, ↓s_nil, ↓s_op, ↓s_opg, ↓s_wanted', ↓s_wantV, s_wantV, s_wantV0, beq_true, beq_false, ↓s_bindS, s_bindS, ↓s_bindE, s_bindE, s_bindE_ret, s_bindE_exit, s_bindE_iteN, s_norm, ↓s_condV, s_condV, s_block_ret, s_block_normal, s_block_exit, s_block_iteN, ↓s_getp, ↓s_getp0, ↓s_get, s_get0, ↓s_con, ↓s_fn, ↓s_os0, ↓s_os1, ↓s_list0, ↓s_list1, ↓s_mov, ↓s_pick, ↓s_pickE, s_pickE, ↓s_bin, ↓s_un, ↓s_minmax, ↓s_call, ↓s_callv, ↓s_callV, ↓s_ext, s_same, b_eql, b_neq, b_lss, b_leq, b_gtr, b_geq, b_add, b_sub, b_mul, b_eqlb, b_neqb, b_fnil, b_fnil', b_fnil2, b_fnil2', u_neg, u_not, m_two, s_end, s_end', s_end_iteN, s_res0, s_res1, s_tup1, s_tup2, ↓iteN_true, ↓iteN_false, iteN_true, iteN_false, Nat.zero_add, List.nil_append, List.append_nil, Nat.reduceEqDiff, reduceIte, decide_true, decide_false, Bool.not_true, Bool.not_false, List.getElem?_cons_zero, List.getElem?_cons_succ, Bool.false_eq_true, if_true, if_false, beq_self_eq_true]
  exact fin _ rfl rfl rfl
theorem RrF.lo {lo lo2 : Nat} {h : H} {dn : List Rq} {a : Option (Nat × Nat)} {c : Option Nat} {e : Nat} (r : RrF lo h dn a c e) (hl : lo2 ≤ lo) : RrF lo2 h dn a c e := by
  rcases r with r | ⟨h1, q, md, ps, e1, e2, e3, g, al, hm, hq, hlo⟩
  · exact .inl r
  · exact .inr ⟨h1, q, md, ps, e1, e2, e3, g, al.imp (fun o p y => by
      obtain ⟨a', c', e', ep, sr, d⟩ := y
      exact ⟨a', c', e', ep, sr, fun hl' b z eq => ⟨by have := (d hl' b z eq).1; omega, (d hl' b z eq).2⟩⟩), hm, hq, by omega⟩
theorem vb_i64 (n : Int) : (V.int .i64 n).beq (V.int .i64 n) = true := by
  unfold V.beq; rw [kindEq_self, ieq_dec]; simp
/-- what All answers, at any place -/
def raR (s : List Nat) (at_ : Int) : List Rq × Nat := if 0 ≤ at_ ∧ at_ ≤ s.length then ((rdV s.length (s.drop at_.toNat)).1, at_.toNat + (rdV s.length (s.drop at_.toNat)).2) else ([], 0)
theorem all_bad (e : EnRd E) (x : NoRd X) (N : Nat) (n : Nat) (at_ : Int) (hat : at_ < 0 ∨ (n : Int) < at_) (a : Option (Nat × Nat)) (c : Option Nat) (ez : Nat) (h : H) :
    ∃ h', callX E X (N + 2) (.fn k_record_All) [.slice a n c ez, .int .i64 at_] h = some (.tup [.slice none 0 (some 0) 0, .int .i64 0], h') ∧ Kp h h' := by
  rw [x_cfn e.al _ _ (Nat.le_of_ble_eq_true rfl) (x.al _ _)]
  obtain ⟨hA, eA⟩ : ∃ hA, (h.new (.cells [.slice none 0 (some 0) 0] .rw)).new (.cells [.int .i64 0] .rw) = hA := ⟨_, rfl⟩
  have kA : Kp h hA := by rw [← eA]; (repeat (first | exact Kp.refl _ | refine Kp.put ?_ _ (by first | omega | (simp only [h_next_put, h_next_new, h_next_del]; omega)) | refine Kp.del ?_ (by first | omega | (simp only [h_next_put, h_next_new, h_next_del]; omega)) | refine Kp.trans ?_ (Kp.new _ _)))
  have nA : hA.next = h.next + 2 := by rw [← eA]; rfl
  have gA0 : hA.get h.next = some (.cells [.slice none 0 (some 0) 0] .rw) := by rw [← eA]; (simp (disch := omega) only [l_loop, l_succ, l_normal, l_normal, l_exit, l_ret, l_iteN, h_put_get, h_new_get, h_del_get, h_next_put, h_next_new, h_next_del, Nat.add_assoc, Nat.add_eq_left, Nat.left_eq_add, Nat.add_left_cancel_iff, s_load, m_load, m_load1, m_load1, m_st, m_stE, m_storeI, m_storeE, w_zero, w_succ, s_alloc, x_idxA, x_idxS, x_idxAE, x_idxSE, x_addrE, x_idx, x_lenS, s_len, x_buildS, x_buildE, x_P0, x_P1, x_fill0, x_filli, x_fills, x_fillb, c_int, List.length_cons, List.length_nil, List.cons_append, List.drop_succ_cons, List.drop_zero, List.drop_nil, List.nil_append, Int.reduceAdd, Int.reduceToNat, Int.reduceLT, Int.reduceLE, Nat.reduceAdd, Nat.reduceMul, Nat.reduceLeDiff, Int.reduceEq, Int.reduceSub, Int.cast_ofNat_Int, s_resc, s_consR, m_load4, m_store4, s_res0, decide_true, decide_false, iteN_true, iteN_false, Nat.reduceEqDiff, Nat.reduceAdd, reduceCtorEq, ]; try rfl)
  have gA1 : hA.get (h.next + 1) = some (.cells [.int .i64 0] .rw) := by rw [← eA]; (simp (disch := omega) only [l_loop, l_succ, l_normal, l_normal, l_exit, l_ret, l_iteN, h_put_get, h_new_get, h_del_get, h_next_put, h_next_new, h_next_del, Nat.add_assoc, Nat.add_eq_left, Nat.left_eq_add, Nat.add_left_cancel_iff, s_load, m_load, m_load1, m_load1, m_st, m_stE, m_storeI, m_storeE, w_zero, w_succ, s_alloc, x_idxA, x_idxS, x_idxAE, x_idxSE, x_addrE, x_idx, x_lenS, s_len, x_buildS, x_buildE, x_P0, x_P1, x_fill0, x_filli, x_fills, x_fillb, c_int, List.length_cons, List.length_nil, List.cons_append, List.drop_succ_cons, List.drop_zero, List.drop_nil, List.nil_append, Int.reduceAdd, Int.reduceToNat, Int.reduceLT, Int.reduceLE, Nat.reduceAdd, Nat.reduceMul, Nat.reduceLeDiff, Int.reduceEq, Int.reduceSub, Int.cast_ofNat_Int, s_resc, s_consR, m_load4, m_store4, s_res0, decide_true, decide_false, iteN_true, iteN_false, Nat.reduceEqDiff, Nat.reduceAdd, reduceCtorEq, ]; try rfl)
  obtain ⟨hF, eF⟩ : ∃ hF, (hA.put h.next (.cells [.slice none 0 (some 0) 0] .rw)).put (h.next + 1) (.cells [.int .i64 0] .rw) = hF := ⟨_, rfl⟩
  have z1 : (h.next + 1 = h.next) = False := by simp
  have gF0 : hF.get h.next = some (.cells [.slice none 0 (some 0) 0] .rw) := by rw [← eF]; (simp (disch := omega) only [l_loop, l_succ, l_normal, l_normal, l_exit, l_ret, l_iteN, h_put_get, h_new_get, h_del_get, h_next_put, h_next_new, h_next_del, Nat.add_assoc, Nat.add_eq_left, Nat.left_eq_add, Nat.add_left_cancel_iff, s_load, m_load, m_load1, m_load1, m_st, m_stE, m_storeI, m_storeE, w_zero, w_succ, s_alloc, x_idxA, x_idxS, x_idxAE, x_idxSE, x_addrE, x_idx, x_lenS, s_len, x_buildS, x_buildE, x_P0, x_P1, x_fill0, x_filli, x_fills, x_fillb, c_int, List.length_cons, List.length_nil, List.cons_append, List.drop_succ_cons, List.drop_zero, List.drop_nil, List.nil_append, Int.reduceAdd, Int.reduceToNat, Int.reduceLT, Int.reduceLE, Nat.reduceAdd, Nat.reduceMul, Nat.reduceLeDiff, Int.reduceEq, Int.reduceSub, Int.cast_ofNat_Int, s_resc, s_consR, m_load4, m_store4, s_res0, decide_true, decide_false, iteN_true, iteN_false, Nat.reduceEqDiff, Nat.reduceAdd, reduceCtorEq, z1]; try rfl)
  have gF1 : hF.get (h.next + 1) = some (.cells [.int .i64 0] .rw) := by rw [← eF]; (simp (disch := omega) only [l_loop, l_succ, l_normal, l_normal, l_exit, l_ret, l_iteN, h_put_get, h_new_get, h_del_get, h_next_put, h_next_new, h_next_del, Nat.add_assoc, Nat.add_eq_left, Nat.left_eq_add, Nat.add_left_cancel_iff, s_load, m_load, m_load1, m_load1, m_st, m_stE, m_storeI, m_storeE, w_zero, w_succ, s_alloc, x_idxA, x_idxS, x_idxAE, x_idxSE, x_addrE, x_idx, x_lenS, s_len, x_buildS, x_buildE, x_P0, x_P1, x_fill0, x_filli, x_fills, x_fillb, c_int, List.length_cons, List.length_nil, List.cons_append, List.drop_succ_cons, List.drop_zero, List.drop_nil, List.nil_append, Int.reduceAdd, Int.reduceToNat, Int.reduceLT, Int.reduceLE, Nat.reduceAdd, Nat.reduceMul, Nat.reduceLeDiff, Int.reduceEq, Int.reduceSub, Int.cast_ofNat_Int, s_resc, s_consR, m_load4, m_store4, s_res0, decide_true, decide_false, iteN_true, iteN_false, Nat.reduceEqDiff, Nat.reduceAdd, reduceCtorEq, ]; try rfl)
  refine ⟨hF, ?_, by rw [← eF]; exact (kA.put _ (Nat.le_refl _)).put _ (by omega)⟩
  rcases hat with hat | hat
  · have c0 : decide (at_ < 0) = true := decide_eq_true hat
    simp (config := {maxSteps := 2000000}) (disch := first | omega | (simp only [List.length_cons, List.length_nil, List.length_append, List.length_drop]; omega)) only [eA, gA0, gA1, c0, eF, gF0, gF1, m_storeS, ↓s_len, x_lenS, ↓b_xor32, ↓b_and32, ↓b_or32, ↓u_not32, b_xor32, b_and32, b_or32, u_not32, w32ad, ↓x_conv, x_convV, ↓x_fieldAddr, x_fieldV, ↓s_nilchk, x_nilchk, Nat.zero_add, Nat.add_zero, Nat.mul_one, ↓s_evD, ↓s_dnil, ↓s_dL, ↓s_dLg, ↓s_dR, ↓s_dRg, ↓s_dRj, ↓s_dRjg, ↓s_dB, ↓s_dBg, ↓s_dAlloc, ↓s_bindD, s_bindD, s_finD, s_finDx, s_addP0, s_addP1, s_addB, s_lookP, ↓s_bump0, ↓s_bump_get, s_bump_next, s_ok0, ↓s_ok1, s_okR0, ↓s_okR1, ↓s_okE, s_okE, s_okE1, s_nth0, s_nthS, Nat.add_zero, Bool.and_self, Bool.and_true, Bool.true_and, ↓l_loop, ↓l_succ, ↓l_normal, l_normal, l_exit, l_ret, l_iteN, ↓h_put_get, ↓h_new_get, ↓h_del_get, h_next_put, h_next_new, h_next_del, Nat.add_assoc, Nat.add_eq_left, Nat.left_eq_add, Nat.add_left_cancel_iff, ↓s_load, m_load, ↓m_load1, m_load1, ↓m_st, m_stE, m_storeI, m_storeE, w_zero, w_succ, ↓s_alloc, ↓x_idxA, ↓x_idxS, x_idxAE, x_idxSE, x_addrE, x_idx, x_lenS, ↓s_len, ↓x_buildS, x_buildE, ↓x_P0, ↓x_P1, x_fill0, x_filli, x_fills, x_fillb, c_int, List.length_cons, List.length_nil, List.cons_append, List.drop_succ_cons, List.drop_zero, List.drop_nil, List.nil_append, Int.reduceAdd, Int.reduceToNat, Int.reduceLT, Int.reduceLE, Nat.reduceAdd, Nat.reduceMul, Nat.reduceLeDiff, Int.reduceEq, Int.reduceSub, Int.cast_ofNat_Int, s_resc, s_consR, m_load4, m_store4, s_res0, ↓s_skip, ↓s_ops, ↓s_dops, ↓s_seq, ↓s_cond, ↓s_block, ↓s_exit, ↓s_ret, ↓s_scope, ↓s_nil, ↓s_op, ↓s_opg, ↓s_wanted', ↓s_wantV, s_wantV, s_wantV0, beq_true, beq_false, ↓s_bindS, s_bindS, ↓s_bindE, s_bindE, s_bindE_ret, s_bindE_exit, s_bindE_iteN, s_norm, ↓s_condV, s_condV, s_block_ret, s_block_normal, s_block_exit, s_block_iteN, ↓s_getp, ↓s_getp0, ↓s_get, s_get0, ↓s_con, ↓s_fn, ↓s_os0, ↓s_os1, ↓s_list0, ↓s_list1, ↓s_mov, ↓s_pick, ↓s_pickE, s_pickE, ↓s_bin, ↓s_un, ↓s_minmax, ↓s_call, ↓s_callv, ↓s_callV, ↓s_ext, s_same, b_eql, b_neq, b_lss, b_leq, b_gtr, b_geq, b_add, b_sub, b_mul, b_eqlb, b_neqb, b_fnil, b_fnil', b_fnil2, b_fnil2', u_neg, u_not, m_two, s_end, s_end', s_end_iteN, s_res0, s_res1, s_tup1, s_tup2, ↓iteN_true, ↓iteN_false, iteN_true, iteN_false, Nat.zero_add, List.nil_append, List.append_nil, Nat.reduceEqDiff, reduceIte, decide_true, decide_false, Bool.not_true, Bool.not_false, List.getElem?_cons_zero, List.getElem?_cons_succ, Bool.false_eq_true, if_true, if_false, beq_self_eq_true]
    try rfl
  · have c0 : decide (at_ < 0) = false := decide_eq_false (by omega)
    have c1 : decide ((n : Int) < at_) = true := decide_eq_true hat
    simp (config := {maxSteps := 2000000}) (disch := first | omega | (simp only [List.length_cons, List.length_nil, List.length_append, List.length_drop]; omega)) only [eA, gA0, gA1, c0, c1, eF, gF0, gF1, m_storeS, ↓s_len, x_lenS, ↓b_xor32, ↓b_and32, ↓b_or32, ↓u_not32, b_xor32, b_and32, b_or32, u_not32, w32ad, ↓x_conv, x_convV, ↓x_fieldAddr, x_fieldV, ↓s_nilchk, x_nilchk, Nat.zero_add, Nat.add_zero, Nat.mul_one, ↓s_evD, ↓s_dnil, ↓s_dL, ↓s_dLg, ↓s_dR, ↓s_dRg, ↓s_dRj, ↓s_dRjg, ↓s_dB, ↓s_dBg, ↓s_dAlloc, ↓s_bindD, s_bindD, s_finD, s_finDx, s_addP0, s_addP1, s_addB, s_lookP, ↓s_bump0, ↓s_bump_get, s_bump_next, s_ok0, ↓s_ok1, s_okR0, ↓s_okR1, ↓s_okE, s_okE, s_okE1, s_nth0, s_nthS, Nat.add_zero, Bool.and_self, Bool.and_true, Bool.true_and, ↓l_loop, ↓l_succ, ↓l_normal, l_normal, l_exit, l_ret, l_iteN, ↓h_put_get, ↓h_new_get, ↓h_del_get, h_next_put, h_next_new, h_next_del, Nat.add_assoc, Nat.add_eq_left, Nat.left_eq_add, Nat.add_left_cancel_iff, ↓s_load, m_load, ↓m_load1, m_load1, ↓m_st, m_stE, m_storeI, m_storeE, w_zero, w_succ, ↓s_alloc, ↓x_idxA, ↓x_idxS, x_idxAE, x_idxSE, x_addrE, x_idx, x_lenS, ↓s_len, ↓x_buildS, x_buildE, ↓x_P0, ↓x_P1, x_fill0, x_filli, x_fills, x_fillb, c_int, List.length_cons, List.length_nil, List.cons_append, List.drop_succ_cons, List.drop_zero, List.drop_nil, List.nil_append, Int.reduceAdd, Int.reduceToNat, Int.reduceLT, Int.reduceLE, Nat.reduceAdd, Nat.reduceMul, Nat.reduceLeDiff, Int.reduceEq, Int.reduceSub, Int.cast_ofNat_Int, s_resc, s_consR, m_load4, m_store4, s_res0, ↓s_skip, ↓s_ops, ↓s_dops, ↓s_seq, ↓s_cond, ↓s_block, ↓s_exit, ↓s_ret, ↓s_scope, ↓s_nil, ↓s_op, ↓s_opg, ↓s_wanted', ↓s_wantV, s_wantV, s_wantV0, beq_true, beq_false, ↓s_bindS, s_bindS, ↓s_bindE, s_bindE, s_bindE_ret, s_bindE_exit, s_bindE_iteN, s_norm, ↓s_condV, s_condV, s_block_ret, s_block_normal, s_block_exit, s_block_iteN, ↓s_getp, ↓s_getp0, ↓s_get, s_get0, ↓s_con, ↓s_fn, ↓s_os0, ↓s_os1, ↓s_list0, ↓s_list1, ↓s_mov, ↓s_pick, ↓s_pickE, s_pickE, ↓s_bin, ↓s_un, ↓s_minmax, ↓s_call, ↓s_callv, ↓s_callV, ↓s_ext, s_same, b_eql, b_neq, b_lss, b_leq, b_gtr, b_geq, b_add, b_sub, b_mul, b_eqlb, b_neqb, b_fnil, b_fnil', b_fnil2, b_fnil2', u_neg, u_not, m_two, s_end, s_end', s_end_iteN, s_res0, s_res1, s_tup1, s_tup2, ↓iteN_true, ↓iteN_false, iteN_true, iteN_false, Nat.zero_add, List.nil_append, List.append_nil, Nat.reduceEqDiff, reduceIte, decide_true, decide_false, Bool.not_true, Bool.not_false, List.getElem?_cons_zero, List.getElem?_cons_succ, Bool.false_eq_true, if_true, if_false, beq_self_eq_true]
    try rfl
theorem all_ok (e : EnRd E) (x : NoRd X) (M : Nat) (hM : 50100 < M) (s : List Nat) (bs : byt s = true) (hs : s.length ≤ 50000) (at_ : Nat) (hat : at_ ≤ s.length) (a : Option (Nat × Nat)) (c : Option Nat) (ez : Nat) (sb : SB s a c ez) (h : H) (src : SrcH h a ez s) :
    ∃ h' ar cr er, callX E X (M + 25) (.fn k_record_All) [.slice a s.length c ez, .int .i64 (at_ : Int)] h = some (.tup [.slice ar (rdV s.length (s.drop at_)).1.length cr er, .int .i64 ((at_ + (rdV s.length (s.drop at_)).2 : Nat) : Int)], h') ∧ Kp h h' ∧ RrF h.next h' (rdV s.length (s.drop at_)).1 ar cr er := by
  rw [x_cfn e.al _ _ (Nat.le_of_ble_eq_true rfl) (x.al _ _)]
  have hg := fun h => recs_go e x (M + 23) a s.length c ez (at_ : Int) h
  obtain ⟨hA, eA⟩ : ∃ hA, ((((h.new (.cells [.slice none 0 (some 0) 0] .rw)).new (.cells [.int .i64 0] .rw)).put (h.next + 1) (.cells [.int .i64 (at_ : Int)] .rw)).new (.cells [.slice a s.length c ez] .rw)).new (.cells [.int .i64 (at_ : Int)] .rw) = hA := ⟨_, rfl⟩
  have nA : hA.next = h.next + 4 := by rw [← eA]; rfl
  have gA0 : hA.get h.next = some (.cells [.slice none 0 (some 0) 0] .rw) := by rw [← eA]; (simp (disch := omega) only [l_loop, l_succ, l_normal, l_normal, l_exit, l_ret, l_iteN, h_put_get, h_new_get, h_del_get, h_next_put, h_next_new, h_next_del, Nat.add_assoc, Nat.add_eq_left, Nat.left_eq_add, Nat.add_left_cancel_iff, s_load, m_load, m_load1, m_load1, m_st, m_stE, m_storeI, m_storeE, w_zero, w_succ, s_alloc, x_idxA, x_idxS, x_idxAE, x_idxSE, x_addrE, x_idx, x_lenS, s_len, x_buildS, x_buildE, x_P0, x_P1, x_fill0, x_filli, x_fills, x_fillb, c_int, List.length_cons, List.length_nil, List.cons_append, List.drop_succ_cons, List.drop_zero, List.drop_nil, List.nil_append, Int.reduceAdd, Int.reduceToNat, Int.reduceLT, Int.reduceLE, Nat.reduceAdd, Nat.reduceMul, Nat.reduceLeDiff, Int.reduceEq, Int.reduceSub, Int.cast_ofNat_Int, s_resc, s_consR, m_load4, m_store4, s_res0, decide_true, decide_false, iteN_true, iteN_false, Nat.reduceEqDiff, Nat.reduceAdd, reduceCtorEq, ]; try rfl)
  have gA1 : hA.get (h.next + 1) = some (.cells [.int .i64 (at_ : Int)] .rw) := by rw [← eA]; (simp (disch := omega) only [l_loop, l_succ, l_normal, l_normal, l_exit, l_ret, l_iteN, h_put_get, h_new_get, h_del_get, h_next_put, h_next_new, h_next_del, Nat.add_assoc, Nat.add_eq_left, Nat.left_eq_add, Nat.add_left_cancel_iff, s_load, m_load, m_load1, m_load1, m_st, m_stE, m_storeI, m_storeE, w_zero, w_succ, s_alloc, x_idxA, x_idxS, x_idxAE, x_idxSE, x_addrE, x_idx, x_lenS, s_len, x_buildS, x_buildE, x_P0, x_P1, x_fill0, x_filli, x_fills, x_fillb, c_int, List.length_cons, List.length_nil, List.cons_append, List.drop_succ_cons, List.drop_zero, List.drop_nil, List.nil_append, Int.reduceAdd, Int.reduceToNat, Int.reduceLT, Int.reduceLE, Nat.reduceAdd, Nat.reduceMul, Nat.reduceLeDiff, Int.reduceEq, Int.reduceSub, Int.cast_ofNat_Int, s_resc, s_consR, m_load4, m_store4, s_res0, decide_true, decide_false, iteN_true, iteN_false, Nat.reduceEqDiff, Nat.reduceAdd, reduceCtorEq, ]; try rfl)
  have gA2 : hA.get (h.next + 2) = some (.cells [.slice a s.length c ez] .rw) := by rw [← eA]; (simp (disch := omega) only [l_loop, l_succ, l_normal, l_normal, l_exit, l_ret, l_iteN, h_put_get, h_new_get, h_del_get, h_next_put, h_next_new, h_next_del, Nat.add_assoc, Nat.add_eq_left, Nat.left_eq_add, Nat.add_left_cancel_iff, s_load, m_load, m_load1, m_load1, m_st, m_stE, m_storeI, m_storeE, w_zero, w_succ, s_alloc, x_idxA, x_idxS, x_idxAE, x_idxSE, x_addrE, x_idx, x_lenS, s_len, x_buildS, x_buildE, x_P0, x_P1, x_fill0, x_filli, x_fills, x_fillb, c_int, List.length_cons, List.length_nil, List.cons_append, List.drop_succ_cons, List.drop_zero, List.drop_nil, List.nil_append, Int.reduceAdd, Int.reduceToNat, Int.reduceLT, Int.reduceLE, Nat.reduceAdd, Nat.reduceMul, Nat.reduceLeDiff, Int.reduceEq, Int.reduceSub, Int.cast_ofNat_Int, s_resc, s_consR, m_load4, m_store4, s_res0, decide_true, decide_false, iteN_true, iteN_false, Nat.reduceEqDiff, Nat.reduceAdd, reduceCtorEq, ]; try rfl)
  have gA3 : hA.get (h.next + 3) = some (.cells [.int .i64 (at_ : Int)] .rw) := by rw [← eA]; (simp (disch := omega) only [l_loop, l_succ, l_normal, l_normal, l_exit, l_ret, l_iteN, h_put_get, h_new_get, h_del_get, h_next_put, h_next_new, h_next_del, Nat.add_assoc, Nat.add_eq_left, Nat.left_eq_add, Nat.add_left_cancel_iff, s_load, m_load, m_load1, m_load1, m_st, m_stE, m_storeI, m_storeE, w_zero, w_succ, s_alloc, x_idxA, x_idxS, x_idxAE, x_idxSE, x_addrE, x_idx, x_lenS, s_len, x_buildS, x_buildE, x_P0, x_P1, x_fill0, x_filli, x_fills, x_fillb, c_int, List.length_cons, List.length_nil, List.cons_append, List.drop_succ_cons, List.drop_zero, List.drop_nil, List.nil_append, Int.reduceAdd, Int.reduceToNat, Int.reduceLT, Int.reduceLE, Nat.reduceAdd, Nat.reduceMul, Nat.reduceLeDiff, Int.reduceEq, Int.reduceSub, Int.cast_ofNat_Int, s_resc, s_consR, m_load4, m_store4, s_res0, decide_true, decide_false, iteN_true, iteN_false, Nat.reduceEqDiff, Nat.reduceAdd, reduceCtorEq, ]; try rfl)
  have kA : Kp h hA := by rw [← eA]; (repeat (first | exact Kp.refl _ | refine Kp.put ?_ _ (by first | omega | (simp only [h_next_put, h_next_new, h_next_del]; omega)) | refine Kp.del ?_ (by first | omega | (simp only [h_next_put, h_next_new, h_next_del]; omega)) | refine Kp.trans ?_ (Kp.new _ _)))
  have fin : ∀ T0, evO T0 (.t 0) = .slice a s.length c ez → evO T0 (.t 4) = .ptr (some (h.next, 0)) → evO T0 (.t 5) = .ptr (some (h.next + 1, 0)) → ∃ h' ar cr er, fnEnd [.cell 4 none, .cell 5 none] (bindE (blockE 0 (rangeEnd (h.next + 5) T0 [h.next + 4] (callF (callX E X (M + 24)) (.yld (h.next + 5)) (.fn k_record_records_1 [] [.ptr (some (h.next + 2, 0)), .ptr (some (h.next + 3, 0))]) ((hA.new .defers).new (.loop 0 none 29 T0 [20, 21] A_record_All_0 B_record_All_0 (h.next + 4)))))) (evC (callX E X (M + 24)) 29 (M + 24) none R_record_All_0)) = some (.tup [.slice ar (rdV s.length (s.drop at_)).1.length cr er, .int .i64 ((at_ + (rdV s.length (s.drop at_)).2 : Nat) : Int)], h') ∧ Kp h h' ∧ RrF h.next h' (rdV s.length (s.drop at_)).1 ar cr er := by
    intro T0 t0 t4 t5
    obtain ⟨hB, eB⟩ : ∃ hB, (hA.new .defers).new (.loop 0 none 29 T0 [20, 21] A_record_All_0 B_record_All_0 (h.next + 4)) = hB := ⟨_, rfl⟩
    have nB : hB.next = h.next + 6 := by rw [← eB]; simp only [h_next_new, nA]
    have kB : Kp hA hB := by rw [← eB]; exact (Kp.new _ _).trans (Kp.new _ _)
    have gBd : hB.get (h.next + 4) = some .defers := by rw [← eB, h_new_ne _ _ (by rw [h_next_new, nA]; omega)]; exact h_new_same' _ _ nA
    have gBL : hB.get (h.next + 5) = some (.loop 0 none 29 T0 [20, 21] A_record_All_0 B_record_All_0 (h.next + 4)) := by rw [← eB]; exact h_new_same' _ _ (by rw [h_next_new, nA])
    have gB0 : hB.get h.next = some (.cells [.slice none 0 (some 0) 0] .rw) := by rw [kB.2 _ (by omega), gA0]
    have gB1 : hB.get (h.next + 1) = some (.cells [.int .i64 (at_ : Int)] .rw) := by rw [kB.2 _ (by omega), gA1]
    have gB2 : hB.get (h.next + 2) = some (.cells [.slice a s.length c ez] .rw) := by rw [kB.2 _ (by omega), gA2]
    have gB3 : hB.get (h.next + 3) = some (.cells [.int .i64 (at_ : Int)] .rw) := by rw [kB.2 _ (by omega), gA3]
    obtain ⟨hC, r, I, nC⟩ := rec1_go e x (M + 1) (by omega) hB (h.next + 5) h.next (h.next + 1) (h.next + 3) (h.next + 2) (h.next + 6) (h.next + 4) T0 t4 t5 (by omega) (by omega) (by omega) (by omega) (by omega) (by omega) (by omega) (by omega) (by omega) (by omega) (by omega) (by omega) (by omega) (by omega) (by omega) s bs hs a c ez sb .rw gB2 (fun h2 n2 f2 => by
      rcases src with s0 | ⟨bi, off, vs, m, h1, h2', h3, h4, h5, h6⟩
      · exact .inl s0
      · exact .inr ⟨bi, off, vs, m, h1, h2', by omega, by rw [f2 _ (by omega) (by omega) (by omega) (by omega) (by omega), kB.2 _ (by omega), kA.2 _ h3, h4], h5, h6⟩) at_ hat ⟨⟨none, some 0, 0, gB0, .inl ⟨rfl, rfl, rfl, rfl⟩⟩, gB1, gB3, gBL, by omega, fun _ _ _ _ _ _ => rfl⟩
    obtain ⟨⟨ar, cr, er, gC0, row⟩, gC1, gC3, gCL, _, fr⟩ := I
    have gCd : hC.get (h.next + 4) = some .defers := by rw [fr _ (by omega) (by omega) (by omega) (by omega) (by omega), gBd]
    have z2 : (h.next + 5 = h.next + 4) = False := by simp
    have z2' : (h.next + 4 = h.next + 5) = False := by simp
    have z3 : (h.next + 5 = h.next + 1) = False := by simp
    have z4 : (h.next + 4 = h.next + 1) = False := by simp
    have z5 : (h.next + 5 = h.next) = False := by simp
    have z6 : (h.next + 4 = h.next) = False := by simp
    have z7 : (h.next + 1 = h.next) = False := by simp
    have z8 : (h.next = h.next + 1) = False := by simp
    rw [eB]
    replace r : callX E X (M + 24) (.fn k_record_records_1) [.yld (h.next + 5), .ptr (some (h.next + 2, 0)), .ptr (some (h.next + 3, 0))] hB = some (.tup [], hC) := r
    obtain ⟨hD, eD⟩ : ∃ hD, hC.del (h.next + 5) = hD := ⟨_, rfl⟩
    have nD : hD.next = hC.next := by rw [← eD]; rfl
    have fD : ∀ i, i ≠ h.next + 5 → hD.get i = hC.get i := fun i h1 => by rw [← eD, h_del_ne _ (Ne.symm h1)]
    obtain ⟨dn, edn⟩ : ∃ dn, (rdV s.length (s.drop at_)).1 = dn := ⟨_, rfl⟩
    obtain ⟨en, een⟩ : ∃ en, at_ + (rdV s.length (s.drop at_)).2 = en := ⟨_, rfl⟩
    rw [edn] at gC0 row
    rw [een] at gC1 gC3
    rw [edn, een]
    have gD0 : hD.get h.next = some (.cells [.slice ar dn.length cr er] .rw) := by rw [fD _ (by omega), gC0]
    have gD1 : hD.get (h.next + 1) = some (.cells [.int .i64 (en : Int)] .rw) := by rw [fD _ (by omega), gC1]
    have gDd : hD.get (h.next + 4) = some .defers := by rw [fD _ (by omega), gCd]
    obtain ⟨hF, eF⟩ : ∃ hF, (hD.put h.next (.cells [.slice ar dn.length cr er] .rw)).put (h.next + 1) (.cells [.int .i64 (en : Int)] .rw) = hF := ⟨_, rfl⟩
    have gFd : hF.get (h.next + 4) = some .defers := by rw [← eF, h_put_ne _ _ (by omega), h_put_ne _ _ (by omega), gDd]
    obtain ⟨hE, eE⟩ : ∃ hE, hF.del (h.next + 4) = hE := ⟨_, rfl⟩
    have nE : hE.next = hC.next := by rw [← eE, ← eF]; exact nD
    have fE : ∀ i, i ≠ h.next → i ≠ h.next + 1 → i ≠ h.next + 5 → i ≠ h.next + 4 → hE.get i = hC.get i := fun i h1 h2 h3 h4 => by rw [← eE, h_del_ne _ (Ne.symm h4), ← eF, h_put_ne _ _ (Ne.symm h2), h_put_ne _ _ (Ne.symm h1), fD _ h3]
    have gE0 : hE.get h.next = some (.cells [.slice ar dn.length cr er] .rw) := by rw [← eE, h_del_ne _ (by omega), ← eF]; (simp (disch := omega) only [l_loop, l_succ, l_normal, l_normal, l_exit, l_ret, l_iteN, h_put_get, h_new_get, h_del_get, h_next_put, h_next_new, h_next_del, Nat.add_assoc, Nat.add_eq_left, Nat.left_eq_add, Nat.add_left_cancel_iff, s_load, m_load, m_load1, m_load1, m_st, m_stE, m_storeI, m_storeE, w_zero, w_succ, s_alloc, x_idxA, x_idxS, x_idxAE, x_idxSE, x_addrE, x_idx, x_lenS, s_len, x_buildS, x_buildE, x_P0, x_P1, x_fill0, x_filli, x_fills, x_fillb, c_int, List.length_cons, List.length_nil, List.cons_append, List.drop_succ_cons, List.drop_zero, List.drop_nil, List.nil_append, Int.reduceAdd, Int.reduceToNat, Int.reduceLT, Int.reduceLE, Nat.reduceAdd, Nat.reduceMul, Nat.reduceLeDiff, Int.reduceEq, Int.reduceSub, Int.cast_ofNat_Int, s_resc, s_consR, m_load4, m_store4, s_res0, decide_true, decide_false, iteN_true, iteN_false, Nat.reduceEqDiff, Nat.reduceAdd, reduceCtorEq, z7]; try rfl)
    have gE1 : hE.get (h.next + 1) = some (.cells [.int .i64 (en : Int)] .rw) := by rw [← eE, h_del_ne _ (by omega), ← eF]; (simp (disch := omega) only [l_loop, l_succ, l_normal, l_normal, l_exit, l_ret, l_iteN, h_put_get, h_new_get, h_del_get, h_next_put, h_next_new, h_next_del, Nat.add_assoc, Nat.add_eq_left, Nat.left_eq_add, Nat.add_left_cancel_iff, s_load, m_load, m_load1, m_load1, m_st, m_stE, m_storeI, m_storeE, w_zero, w_succ, s_alloc, x_idxA, x_idxS, x_idxAE, x_idxSE, x_addrE, x_idx, x_lenS, s_len, x_buildS, x_buildE, x_P0, x_P1, x_fill0, x_filli, x_fills, x_fillb, c_int, List.length_cons, List.length_nil, List.cons_append, List.drop_succ_cons, List.drop_zero, List.drop_nil, List.nil_append, Int.reduceAdd, Int.reduceToNat, Int.reduceLT, Int.reduceLE, Nat.reduceAdd, Nat.reduceMul, Nat.reduceLeDiff, Int.reduceEq, Int.reduceSub, Int.cast_ofNat_Int, s_resc, s_consR, m_load4, m_store4, s_res0, decide_true, decide_false, iteN_true, iteN_false, Nat.reduceEqDiff, Nat.reduceAdd, reduceCtorEq, ]; try rfl)
    have kE : Kp h hE := ⟨by omega, fun i hi => by rw [fE _ (by omega) (by omega) (by omega) (by omega), fr _ (by omega) (by omega) (by omega) (by omega) (by omega), kB.2 _ (by omega), kA.2 _ hi]⟩
    have rowE : RrF h.next hE dn ar cr er := by
      have row2 : RrF (h.next + 6) hE dn ar cr er := row.mono (by omega) (fun i h1 h2 => fE i (by omega) (by omega) (by omega) (by omega))
      exact row2.lo (by omega)
    refine ⟨hE, ar, cr, er, ?_, kE, rowE⟩
    generalize dn.length = dl at *
    generalize s.length = sl at *
    simp (config := {maxSteps := 2000000}) (disch := first | omega | (simp only [List.length_cons, List.length_nil, List.length_append, List.length_drop]; omega)) only [s_callF, List.nil_append, List.cons_append, r, t0, t4, t5, gCd, gCL, gC0, gC1, vb_i64 (en : Int), z2, z2', z7, z8, eD, gD0, gD1, gDd, eF, gFd, eE, gE0, gE1, m_storeS, R_record_All_0, e_tup0, r_end, r_0, r_jn, e_ret, d_cons, d_yes, d_nil, e_some, ↓s_len, x_lenS, ↓b_xor32, ↓b_and32, ↓b_or32, ↓u_not32, b_xor32, b_and32, b_or32, u_not32, w32ad, ↓x_conv, x_convV, ↓x_fieldAddr, x_fieldV, ↓s_nilchk, x_nilchk, Nat.zero_add, Nat.add_zero, Nat.mul_one, ↓s_evD, ↓s_dnil, ↓s_dL, ↓s_dLg, ↓s_dR, ↓s_dRg, ↓s_dRj, ↓s_dRjg, ↓s_dB, ↓s_dBg, ↓s_dAlloc, ↓s_bindD, s_bindD, s_finD, s_finDx, s_addP0, s_addP1, s_addB, s_lookP, ↓s_bump0, ↓s_bump_get, s_bump_next, s_ok0, ↓s_ok1, s_okR0, ↓s_okR1, ↓s_okE, s_okE, s_okE1, s_nth0, s_nthS, Nat.add_zero, Bool.and_self, Bool.and_true, Bool.true_and, ↓l_loop, ↓l_succ, ↓l_normal, l_normal, l_exit, l_ret, l_iteN, ↓h_put_get, ↓h_new_get, ↓h_del_get, h_next_put, h_next_new, h_next_del, Nat.add_assoc, Nat.add_eq_left, Nat.left_eq_add, Nat.add_left_cancel_iff, ↓s_load, m_load, ↓m_load1, m_load1, ↓m_st, m_stE, m_storeI, m_storeE, w_zero, w_succ, ↓s_alloc, ↓x_idxA, ↓x_idxS, x_idxAE, x_idxSE, x_addrE, x_idx, x_lenS, ↓s_len, ↓x_buildS, x_buildE, ↓x_P0, ↓x_P1, x_fill0, x_filli, x_fills, x_fillb, c_int, List.length_cons, List.length_nil, List.cons_append, List.drop_succ_cons, List.drop_zero, List.drop_nil, List.nil_append, Int.reduceAdd, Int.reduceToNat, Int.reduceLT, Int.reduceLE, Nat.reduceAdd, Nat.reduceMul, Nat.reduceLeDiff, Int.reduceEq, Int.reduceSub, Int.cast_ofNat_Int, s_resc, s_consR, m_load4, m_store4, s_res0, ↓s_skip, ↓s_ops, ↓s_dops, ↓s_seq, ↓s_cond, ↓s_block, ↓s_exit, ↓s_ret, ↓s_scope, ↓s_nil, ↓s_op, ↓s_opg, ↓s_wanted', ↓s_wantV, s_wantV, s_wantV0, beq_true, beq_false, ↓s_bindS, s_bindS, ↓s_bindE, s_bindE, s_bindE_ret, s_bindE_exit, s_bindE_iteN, s_norm, ↓s_condV, s_condV, s_block_ret, s_block_normal, s_block_exit, s_block_iteN, ↓s_getp, ↓s_getp0, ↓s_get, s_get0, ↓s_con, ↓s_fn, ↓s_os0, ↓s_os1, ↓s_list0, ↓s_list1, ↓s_mov, ↓s_pick, ↓s_pickE, s_pickE, ↓s_bin, ↓s_un, ↓s_minmax, ↓s_call, ↓s_callv, ↓s_callV, ↓s_ext, s_same, b_eql, b_neq, b_lss, b_leq, b_gtr, b_geq, b_add, b_sub, b_mul, b_eqlb, b_neqb, b_fnil, b_fnil', b_fnil2, b_fnil2', u_neg, u_not, m_two, s_end, s_end', s_end_iteN, s_res0, s_res1, s_tup1, s_tup2, ↓iteN_true, ↓iteN_false, iteN_true, iteN_false, Nat.zero_add, List.nil_append, List.append_nil, Nat.reduceEqDiff, reduceIte, decide_true, decide_false, Bool.not_true, Bool.not_false, List.getElem?_cons_zero, List.getElem?_cons_succ, Bool.false_eq_true, if_true, if_false, beq_self_eq_true]
    try rfl
  obtain ⟨R, eR⟩ : ∃ R, R_record_All_0 = R := ⟨_, rfl⟩
  rw [eR] at fin ⊢
  obtain ⟨sl, esl⟩ : ∃ n, s.length = n := ⟨_, rfl⟩
  rw [esl] at hg eA fin hat ⊢
  have c0 : decide ((at_ : Int) < 0) = false := decide_eq_false (by omega)
  have c1 : decide ((sl : Int) < (at_ : Int)) = false := decide_eq_false (by omega)
  simp (config := {maxSteps := 2000000}) (disch := first | omega | (simp only [List.length_cons, List.length_nil, List.length_append, List.length_drop]; omega)) only [hg, eA, nA, c0, c1, m_storeS, ↓s_box, ↓s_range, c_ptr, ↓s_len, x_lenS, ↓b_xor32, ↓b_and32, ↓b_or32, ↓u_not32, b_xor32, b_and32, b_or32, u_not32, w32ad, ↓x_conv, x_convV, ↓x_fieldAddr, x_fieldV, ↓s_nilchk, x_nilchk, Nat.zero_add, Nat.add_zero, Nat.mul_one, ↓l_loop, ↓l_succ, ↓l_normal, l_normal, l_exit, l_ret, l_iteN, ↓h_put_get, ↓h_new_get, ↓h_del_get, h_next_put, h_next_new, h_next_del, Nat.add_assoc, Nat.add_eq_left, Nat.left_eq_add, Nat.add_left_cancel_iff, ↓s_load, m_load, ↓m_load1, m_load1, ↓m_st, m_stE, m_storeI, m_storeE, w_zero, w_succ, ↓s_alloc, ↓x_idxA, ↓x_idxS, x_idxAE, x_idxSE, x_addrE, x_idx, x_lenS, ↓s_len, ↓x_buildS, x_buildE, ↓x_P0, ↓x_P1, x_fill0, x_filli, x_fills, x_fillb, c_int, List.length_cons, List.length_nil, List.cons_append, List.drop_succ_cons, List.drop_zero, List.drop_nil, List.nil_append, Int.reduceAdd, Int.reduceToNat, Int.reduceLT, Int.reduceLE, Nat.reduceAdd, Nat.reduceMul, Nat.reduceLeDiff, Int.reduceEq, Int.reduceSub, Int.cast_ofNat_Int, s_resc, s_consR, m_load4, m_store4, s_res0, ↓s_skip, ↓s_ops, ↓s_dops, ↓s_seq, ↓s_cond, ↓s_block, ↓s_exit, ↓s_ret, ↓s_scope, ↓s_nil, ↓s_op, ↓s_opg, ↓s_wanted', ↓s_wantV, s_wantV, s_wantV0, beq_true, beq_false, ↓s_bindS, s_bindS, ↓s_bindE, s_bindE, s_bindE_ret, s_bindE_exit, s_bindE_iteN, s_norm, ↓s_condV, s_condV, s_block_ret, s_block_normal, s_block_exit, s_block_iteN, ↓s_getp, ↓s_getp0, ↓s_get, s_get0, ↓s_con, ↓s_fn, ↓s_os0, ↓s_os1, ↓s_list0, ↓s_list1, ↓s_mov, ↓s_pick, ↓s_pickE, s_pickE, ↓s_bin, ↓s_un, ↓s_minmax, ↓s_call, ↓s_callv, ↓s_callV, ↓s_ext, s_same, b_eql, b_neq, b_lss, b_leq, b_gtr, b_geq, b_add, b_sub, b_mul, b_eqlb, b_neqb, b_fnil, b_fnil', b_fnil2, b_fnil2', u_neg, u_not, m_two, s_end, s_end', s_end_iteN, s_res0, s_res1, s_tup1, s_tup2, ↓iteN_true, ↓iteN_false, iteN_true, iteN_false, Nat.zero_add, List.nil_append, List.append_nil, Nat.reduceEqDiff, reduceIte, decide_true, decide_false, Bool.not_true, Bool.not_false, List.getElem?_cons_zero, List.getElem?_cons_succ, Bool.false_eq_true, if_true, if_false, beq_self_eq_true]
  exact fin _ (by (simp only [s_getp, s_getp0, Nat.reduceEqDiff, decide_false, decide_true, iteN_false, iteN_true, nA]; try rfl)) (by (simp only [s_getp, s_getp0, Nat.reduceEqDiff, decide_false, decide_true, iteN_false, iteN_true, nA]; try rfl)) (by (simp only [s_getp, s_getp0, Nat.reduceEqDiff, decide_false, decide_true, iteN_false, iteN_true, nA]; try rfl))
end Go.Eng
namespace Go.Eng
open Go
variable {E : Nat → Option Fn} {X : Orc}
set_option linter.unusedSimpArgs false
set_option linter.unusedVariables false
theorem eq_or : ∀ (as bs : List Rq), as.length = bs.length → as = bs ∨ ∃ (j : Nat) (o p : Rq), as[j]? = some o ∧ bs[j]? = some p ∧ o ≠ p ∧ ∀ (i : Nat) (o' p' : Rq), i < j → as[i]? = some o' → bs[i]? = some p' → o' = p' := by
  intro as
  induction as with
  | nil => intro bs h; left; exact (List.length_eq_zero_iff.1 h.symm).symm
  | cons a r ih =>
    intro bs h
    cases bs with
    | nil => cases h
    | cons b s =>
      by_cases ab : a = b
      · rcases ih s (by simpa using h) with e | ⟨j, o, p, h1, h2, h3, h4⟩
        · left; rw [ab, e]
        · refine .inr ⟨j + 1, o, p, by simpa using h1, by simpa using h2, h3, fun i o' p' hi ho hp => ?_⟩
          cases i with
          | zero => simp at ho hp; rw [← ho, ← hp]; exact ab
          | succ i => simp at ho hp; exact h4 i o' p' (by omega) ho hp
      · exact .inr ⟨0, a, b, rfl, rfl, ab, fun i _ _ hi => by omega⟩
end Go.Eng
