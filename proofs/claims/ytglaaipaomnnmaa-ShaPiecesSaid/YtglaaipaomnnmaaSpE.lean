/- What functions of the program come to: own work. -/
import Derived.Test.YtglaaipaomnnmaaSpD
namespace Go.Eng
open Go
variable {E : Nat → Option Fn} {X : Orc}
set_option linter.unusedSimpArgs false
set_option linter.unusedVariables false
/-- two sums, all that was written, and what the second had -/
structure PcS (ps po : Nat) (P Q A Ey : List Nat) (aA : Option (Nat × Nat)) (cA : Option Nat) (eA : Nat) (aE : Option (Nat × Nat)) (cE : Option Nat) (eE : Nat) (h0 h : H) : Prop where
  sp : SumAt h ps (absorb initS P)
  so : SumAt h po (absorb initS Q)
  wA : Wb h A aA cA eA
  wE : Wb h Ey aE cE eE
  d1 : ps ≠ po
  d2 : ∀ q, aA = some (q, 0) → q ≠ ps ∧ q ≠ po ∧ aE ≠ some (q, 0)
  d3 : ∀ q, aE = some (q, 0) → q ≠ ps ∧ q ≠ po
  l1 : h0.next ≤ ps
  l2 : h0.next ≤ po
  l3 : ∀ q z, aA = some (q, z) → h0.next ≤ q
  l4 : ∀ q z, aE = some (q, z) → h0.next ≤ q
  kp : Kp h0 h
section
variable {ps po : Nat} {P Q A Ey : List Nat} {aA : Option (Nat × Nat)} {cA : Option Nat} {eA : Nat} {aE : Option (Nat × Nat)} {cE : Option Nat} {eE : Nat} {h0 h h' : H}
theorem PcS.step {P' : List Nat} (s : PcS ps po P Q A Ey aA cA eA aE cE eE h0 h) (hn : h.next ≤ h'.next) (fr : ∀ j, j < h.next → j ≠ ps → h'.get j = h.get j) (sp : SumAt h' ps (absorb initS P')) : PcS ps po P' Q A Ey aA cA eA aE cE eE h0 h' := by
  refine ⟨sp, ⟨Nat.lt_of_lt_of_le s.so.1 hn, by rw [fr _ s.so.1 (Ne.symm s.d1), s.so.2]⟩, s.wA.mono hn (fun q hq e => fr q hq (s.d2 q e).1), s.wE.mono hn (fun q hq e => fr q hq (s.d3 q e).1), s.d1, s.d2, s.d3, s.l1, s.l2, s.l3, s.l4, ⟨Nat.le_trans s.kp.1 hn, fun j hj => ?_⟩⟩
  have := s.kp.1
  have := s.l1
  rw [fr j (by omega) (by omega), s.kp.2 j hj]
theorem PcS.more (s : PcS ps po P Q A Ey aA cA eA aE cE eE h0 h) (k : Kp h h') : PcS ps po P Q A Ey aA cA eA aE cE eE h0 h' := s.step k.1 (fun j hj _ => k.2 j hj) (s.sp.kp k)
theorem PcS.app (s : PcS ps po P Q A Ey aA cA eA aE cE eE h0 h) (l : List Nat) (hl : A.length + l.length ≤ 1000000) : ∃ a' c' e' h', appendC h 1 1 (.slice aA A.length cA eA) (some (l.length, ofI .u8 l)) = some (.slice a' (A ++ l).length c' e', h') ∧ PcS ps po P Q (A ++ l) Ey a' c' e' aE cE eE h0 h' := by
  obtain ⟨a', c', e', h', r, wb, nx, fr, ow⟩ := ap_wb h A l aA cA eA s.wA hl
  have kn := s.kp.1
  have na : ∀ q, aE = some (q, 0) → aA ≠ some (q, 0) := fun q e e2 => (s.d2 q e2).2.2 e
  have np : aA ≠ some (ps, 0) := fun e => (s.d2 ps e).1 rfl
  have no : aA ≠ some (po, 0) := fun e => (s.d2 po e).2.1 rfl
  refine ⟨a', c', e', h', r, ⟨⟨Nat.lt_of_lt_of_le s.sp.1 nx, by rw [fr _ s.sp.1 np, s.sp.2]⟩, ⟨Nat.lt_of_lt_of_le s.so.1 nx, by rw [fr _ s.so.1 no, s.so.2]⟩, wb, s.wE.mono nx (fun q hq e => fr q hq (na q e)), s.d1, fun q e => ?_, s.d3, s.l1, s.l2, fun q z e => ?_, s.l4, ⟨by omega, fun j hj => by rw [fr j (by omega) (fun e => by have := s.l3 j 0 e; omega), s.kp.2 j hj]⟩⟩⟩
  · rcases ow with o | o
    · exact s.d2 q (by rw [← o]; exact e)
    · rw [o] at e
      cases e
      exact ⟨fun e => by have := s.sp.1; omega, fun e => by have := s.so.1; omega, fun e => by have := s.wE.lt e; omega⟩
  · rcases ow with o | o
    · exact s.l3 q z (by rw [← o]; exact e)
    · rw [o] at e; cases e; exact kn
theorem PcS.copy (s : PcS ps po P Q A Ey aA cA eA aE cE eE h0 h) (k : Kp h h') (hn : h'.next = h.next + 1) (sc : SumAt h' h.next (absorb initS P)) : PcS ps h.next P P A Ey aA cA eA aE cE eE h0 h' := by
  have s' := s.more k
  exact ⟨s'.sp, sc, s'.wA, s'.wE, fun e => by have := s.sp.1; omega, fun q e => ⟨(s.d2 q e).1, fun e2 => by have := s.wA.lt e; omega, (s.d2 q e).2.2⟩, fun q e => ⟨(s.d3 q e).1, fun e2 => by have := s.wE.lt e; omega⟩, s.l1, s.kp.1, s.l3, s.l4, s'.kp⟩
theorem PcS.appE (s : PcS ps po P Q A Ey aA cA eA aE cE eE h0 h) (l : List Nat) (hl : Ey.length + l.length ≤ 1000000) : ∃ a' c' e' h', appendC h 1 1 (.slice aE Ey.length cE eE) (some (l.length, ofI .u8 l)) = some (.slice a' (Ey ++ l).length c' e', h') ∧ PcS ps po P Q A (Ey ++ l) aA cA eA a' c' e' h0 h' := by
  obtain ⟨a', c', e', h', r, wb, nx, fr, ow⟩ := ap_wb h Ey l aE cE eE s.wE hl
  have kn := s.kp.1
  have na : ∀ q, aA = some (q, 0) → aE ≠ some (q, 0) := fun q e => (s.d2 q e).2.2
  have np : aE ≠ some (ps, 0) := fun e => (s.d3 ps e).1 rfl
  have no : aE ≠ some (po, 0) := fun e => (s.d3 po e).2 rfl
  refine ⟨a', c', e', h', r, ⟨⟨Nat.lt_of_lt_of_le s.sp.1 nx, by rw [fr _ s.sp.1 np, s.sp.2]⟩, ⟨Nat.lt_of_lt_of_le s.so.1 nx, by rw [fr _ s.so.1 no, s.so.2]⟩, s.wA.mono nx (fun q hq e => fr q hq (na q e)), wb, s.d1, fun q e => ?_, fun q e => ?_, s.l1, s.l2, s.l3, fun q z e => ?_, ⟨by omega, fun j hj => by rw [fr j (by omega) (fun e => by have := s.l4 j 0 e; omega), s.kp.2 j hj]⟩⟩⟩
  · refine ⟨(s.d2 q e).1, (s.d2 q e).2.1, fun e2 => ?_⟩
    rcases ow with o | o
    · exact (s.d2 q e).2.2 (by rw [← o]; exact e2)
    · rw [o] at e2; cases e2; have := s.wA.lt e; omega
  · rcases ow with o | o
    · exact s.d3 q (by rw [← o]; exact e)
    · rw [o] at e
      cases e
      exact ⟨fun e => by have := s.sp.1; omega, fun e => by have := s.so.1; omega⟩
  · rcases ow with o | o
    · exact s.l4 q z (by rw [← o]; exact e)
    · rw [o] at e; cases e; exact kn
end
structure EnPc (E : Nat → Option Fn) : Prop where
  sh : EnSha E
  ln : E k_sha_Sum_Len = some f_sha_Sum_Len
  cp : E k_sha_Sum_Copy = some f_sha_Sum_Copy
structure NoPc (X : Orc) : Prop where
  sh : NoSha X
  ln : ∀ a h, X (.fn k_sha_Sum_Len) a h = none
  cp : ∀ a h, X (.fn k_sha_Sum_Copy) a h = none
  ro : HasRof X
def catN (ls : List (List Nat)) (i : Nat) : List Nat := (ls.take i).flatten
def eyN (ls : List (List Nat)) (j i : Nat) : List Nat := if j < i then catN ls (j + 1) else []
theorem cat_succ (ls : List (List Nat)) (i : Nat) (l : List Nat) (h : ls[i]? = some l) : catN ls (i + 1) = catN ls i ++ l := by
  unfold catN; rw [List.take_add_one, h, List.flatten_append]; simp
theorem cat_le (ls : List (List Nat)) (h : ∀ l ∈ ls, l.length ≤ 300) (hn : ls.length ≤ 20) (i : Nat) : (catN ls i).length ≤ 6000 := by
  have : ∀ (k : List (List Nat)), (∀ l ∈ k, l.length ≤ 300) → k.flatten.length ≤ k.length * 300 := by
    intro k
    induction k with
    | nil => intro _; simp
    | cons a r ih => intro hk; have := ih (fun l hl => hk l (List.mem_cons_of_mem _ hl)); have := hk a (List.mem_cons_self ..); rw [List.flatten_cons, List.length_append, List.length_cons, Nat.succ_mul]; omega
  have h1 := this (ls.take i) (fun l hl => h l (List.mem_of_mem_take hl))
  have h2 : (ls.take i).length ≤ 20 := by rw [List.length_take]; omega
  have h3 : (ls.take i).length * 300 ≤ 20 * 300 := Nat.mul_le_mul_right _ h2
  unfold catN; omega
theorem cat_byt (ls : List (List Nat)) (h : ∀ l ∈ ls, byt l = true) (i : Nat) : byt (catN ls i) = true := byt_iff.2 (fun x hx => by
  obtain ⟨l, hl, hx⟩ := List.mem_flatten.1 hx
  exact byt_iff.1 (h l (List.mem_of_mem_take hl)) x hx)
structure PcI (va : V) (at_ : Nat) (ls : List (List Nat)) (ps : Nat) (h0 : H) (i : Nat) (T : Tr V) (h : H) : Prop where
  il : i ≤ ls.length
  t0 : evO T (.t 0) = va
  t1 : evO T (.t 1) = .int .u8 (at_ : Int)
  t5 : evO T (.t 5) = .ptr (some (ps, 0))
  t19 : evO T (.t 19) = .int .i64 (ls.length : Int)
  t20 : evO T (.t 20) = .int .i64 (i : Int)
  st : ∃ po aA cA eA aE cE eE, evO T (.t 6) = .ptr (some (po, 0)) ∧ evO T (.t 7) = .slice aA (catN ls i).length cA eA ∧ evO T (.t 8) = .slice aE (eyN ls (at_ % ls.length) i).length cE eE ∧ PcS ps po (catN ls i) (eyN ls (at_ % ls.length) i) (catN ls i) (eyN ls (at_ % ls.length) i) aA cA eA aE cE eE h0 h
set_option maxHeartbeats 1000000 in
theorem pc_step (e : EnPc E) (x : NoPc X) (M m : Nat) (hM : 1000 < M) (hm : 400 < m) (at_ : Nat) (hat : at_ < 256) (ls : List (List Nat)) (hn : ls.length ≤ 20) (bl : ∀ l ∈ ls, byt l = true) (ps : Nat) (a : Option (Nat × Nat)) (h0 : H) (lh : LsH h0 a ls) (i : Nat) (l : List Nat) (hil : ls[i]? = some l) (sm : ∀ l ∈ ls.take (i + 1), l.length ≤ 300) (T0 : Tr V) (h : H) (I : PcI (.slice a ls.length none 1) at_ ls ps h0 i T0 h) :
    ∃ T' h', evC (callX E X (M + 81)) 121 m none L_purserlaw04_ShaPieces_1 ⟨T0, [], h⟩ = some (.normal, ⟨T', [], h'⟩) ∧ PcI (.slice a ls.length none 1) at_ ls ps h0 (i + 1) T' h' := by
  obtain ⟨_, t0, t1, t5, t19, t20, po, aA, cA, eA, aE, cE, eE, t6, t7, t8, S⟩ := I
  have hi : i < ls.length := (List.getElem?_eq_some_iff.1 hil).1
  have hl : l.length ≤ 300 := sm l (by rw [List.take_add_one, hil]; simp)
  have bll := bl l (List.mem_of_getElem? hil)
  have c0 : decide ((i : Int) < (ls.length : Int)) = true := decide_eq_true (by omega)
  have wi : wr .i64 ((i : Int) + 1) = ((i + 1 : Nat) : Int) := by rw [wr_i64 (by omega)]; omega
  have ix : idx (i : Int) ls.length = some i := idxn hi
  obtain ⟨q, vs, md, b, rfl, hq, gq', cg, sb⟩ := lh.at i l hil
  have gv : h.get q = some (.cells vs md) := by rw [S.kp.2 _ hq, gq']
  have d0 : decide ((300 : Int) < (l.length : Int)) = false := decide_eq_false (by omega)
  have lcat : ∀ k, k ≤ i + 1 → (catN ls k).length ≤ 6000 := fun k hk => by
    have := cat_le (ls.take (i + 1)) sm (by rw [List.length_take]; omega) k
    have e1 : catN (ls.take (i + 1)) k = catN ls k := by unfold catN; rw [List.take_take, Nat.min_eq_left hk]
    rw [e1] at this; exact this
  have hqn : q < h.next := Nat.lt_of_lt_of_le hq S.kp.1
  have sc0 := ((sb.mono S.kp).mono (Kp.new h (.cells [] .rw))).cellz none
  obtain ⟨aO, cO, eO, hA, apO, kA, owA, geO⟩ := app_bO h l (by omega)
  have srcO : Src hA ps hA.next aO eO l := by
    rcases owA with s | ⟨q0, m0, f1, f2, f3, f4, f5⟩
    · exact .inl s
    · have := geO _ _ f1
      exact .inr ⟨q0, 0, _, m0, f1, f2, by have := S.sp.1; omega, f5, f3, by rw [ofI_len]; omega, by rw [List.drop_zero]; exact List.take_of_length_le (by rw [ofI_len]; exact Nat.le_refl _)⟩
  obtain ⟨hB, rB, sB, kB⟩ := write_at e.sh x.sh (M + 1) ps _ (absorb_ok _ _ initS_ok) l aO l.length rfl cO eO hA (by omega) (by omega) (S.sp.kp kA) srcO
  rw [← absorb_app, ← cat_succ ls i l hil] at sB
  replace rB : callX E X (M + 81) (.fn k_sha_Sum_Write) [.ptr (some (ps, 0)), .slice aO l.length cO eO] hA = some (.ptr (some (ps, 0)), hB) := rB
  have owB : Ow hB l aO eO := by
    rcases owA with s | ⟨q0, m0, f1, f2, f3, f4, f5⟩
    · exact .inl s
    · have := geO _ _ f1
      exact .inr ⟨q0, m0, f1, f2, by rw [kB.2 _ f5 (by have := S.sp.1; omega), f3], f4, Nat.lt_of_lt_of_le f5 kB.1⟩
  have kAn := kA.1
  have kBn := kB.1
  have SB : PcS ps po (catN ls (i + 1)) (eyN ls (at_ % ls.length) i) (catN ls i) (eyN ls (at_ % ls.length) i) aA cA eA aE cE eE h0 hB := S.step (by omega) (fun j hj hne => by rw [kB.2 _ (by omega) hne, kA.2 _ hj]) sB
  have gvA : hA.get q = some (.cells vs md) := by rw [kA.2 _ hqn, gv]
  have gvB : hB.get q = some (.cells vs md) := by rw [SB.kp.2 _ hq, gq']
  have sO := str_src owB.src bll cO
  have sL := str_src (sb.mono SB.kp) bll none
  have sq : decide (l = l) = true := decide_eq_true rfl
  have pn := fun h => pneq h ps
  have i1 : i + 1 ≤ ls.length := hi
  have zq : (h.next = q) = False := by simp; omega
  have fin : ∀ T, evO T (.t 10) = .slice aO l.length cO eO → evO T (.t 51) = .int .i64 (l.length : Int) → evO T (.t 52) = .int .i64 0 → evO T (.t 0) = .slice (some (q, 0)) ls.length none 1 → evO T (.t 1) = .int .u8 (at_ : Int) → evO T (.t 5) = .ptr (some (ps, 0)) → evO T (.t 6) = .ptr (some (po, 0)) → evO T (.t 7) = .slice aA (catN ls i).length cA eA → evO T (.t 8) = .slice aE (eyN ls (at_ % ls.length) i).length cE eE → evO T (.t 9) = .int .i64 (i : Int) → evO T (.t 19) = .int .i64 (ls.length : Int) → evO T (.t 20) = .int .i64 (i : Int) →
      ∃ T' h', bindE (blockE 1 (bindE (blockE 2 (loopN (evC (callX E X (M + 81)) 121 m none L_purserlaw04_ShaPieces_0) m ⟨T, [], hB⟩)) (evC (callX E X (M + 81)) 121 m none R_purserlaw04_ShaPieces_0))) (evC (callX E X (M + 81)) 121 m none R_purserlaw04_ShaPieces_1) = some (.normal, ⟨T', [], h'⟩) ∧ PcI (.slice (some (q, 0)) ls.length none 1) at_ ls ps h0 (i + 1) T' h' := by
    intro T u10 u51 u52 u0 u1 u5 u6 u7 u8 u9 u19 u20
    obtain ⟨T3, hC, rr, ⟨nC, fC⟩, w0, w1, w5, w6, w7, w8, w9, w19, w20⟩ := sp0_go (callX E X (M + 81)) m T hB l (by omega) (by omega) aO cO eO owB u10 u51 u52
    rw [rr]
    rw [u0] at w0
    rw [u1] at w1
    rw [u5] at w5
    rw [u6] at w6
    rw [u7] at w7
    rw [u8] at w8
    rw [u9] at w9
    rw [u19] at w19
    rw [u20] at w20
    have frC : ∀ j, j < h.next → hC.get j = hB.get j := fun j hj => fC j (fun hne e => by have := geO j 0 e; omega)
    have SC : PcS ps po (catN ls (i + 1)) (eyN ls (at_ % ls.length) i) (catN ls i) (eyN ls (at_ % ls.length) i) aA cA eA aE cE eE h0 hC := by
      have c1 : ∀ j, j < h.next → j ≠ ps → hC.get j = h.get j := fun j hj hne => by rw [frC j hj, kB.2 _ (by omega) hne, kA.2 _ hj]
      exact S.step (by omega) c1 ⟨by have := S.sp.1; omega, by rw [frC _ S.sp.1]; exact sB.2⟩
    have gvC : hC.get q = some (.cells vs md) := by rw [SC.kp.2 _ hq, gq']
    have scC := (sb.mono SC.kp).cellz none
    obtain ⟨aA', cA', eA', hD, apD, SD⟩ := SC.app l (by have := lcat i (by omega); omega)
    rw [← cat_succ ls i l hil] at apD SD
    have lc1 := lcat (i + 1) (Nat.le_refl _)
    have bc1 := cat_byt ls bl (i + 1)
    have wat : wr .i64 (at_ : Int) = (at_ : Int) := wr_i64 (by omega)
    obtain ⟨j, ej⟩ : ∃ j, at_ % ls.length = j := ⟨_, rfl⟩
    rw [ej] at w8 SD
    have rm : ∀ e h, binV .rem e h (.int .i64 (at_ : Int)) (.int .i64 (ls.length : Int)) = some (.int .i64 (j : Int)) := fun e h => by rw [b_rem _ _ _ _ _ (by omega), ← ej]; rfl
    have s32 := shaV_len (catN ls (i + 1))
    have nq := fun h => neq32 h (shaV (catN ls (i + 1))) (shaV (catN ls (i + 1))) s32 s32
    have dq : decide (shaV (catN ls (i + 1)) = shaV (catN ls (i + 1))) = true := decide_eq_true rfl
    have okP := absorb_ok (catN ls (i + 1)) initS initS_ok
    have wlen : wr .u64 ((catN ls (i + 1)).length : Int) = ((catN ls (i + 1)).length : Int) := u64n _ (by omega)
    have dl : decide (((catN ls (i + 1)).length : Int) = ((catN ls (i + 1)).length : Int)) = true := decide_eq_true rfl
    -- what follows the choice
    have rest : ∀ (po' : Nat) (Ey' : List Nat) (aE' : Option (Nat × Nat)) (cE' : Option Nat) (eE' : Nat) (hF : H), PcS ps po' (catN ls (i + 1)) Ey' (catN ls (i + 1)) Ey' aA' cA' eA' aE' cE' eE' h0 hF → ∃ hG, callX E X (M + 81) (.fn k_sha_Sum_End) [.ptr (some (ps, 0))] hF = some (.agg (ofI .u8 (shaV (catN ls (i + 1)))), hG) ∧ callX E X (M + 81) (.fn k_purserref04_Of) [.slice aA' (catN ls (i + 1)).length cA' eA'] hG = some (.agg (ofI .u8 (shaV (catN ls (i + 1)))), hG) ∧ callX E X (M + 81) (.fn k_sha_Sum_Len) [.ptr (some (ps, 0))] hG = some (.int .u64 ((catN ls (i + 1)).length : Int), hG) ∧ PcS ps po' (catN ls (i + 1)) Ey' (catN ls (i + 1)) Ey' aA' cA' eA' aE' cE' eE' h0 hG := by
      intro po' Ey' aE' cE' eE' hF SF
      obtain ⟨hG, rG, kG⟩ := end_at e.sh x.sh M ps _ okP hF (by omega) SF.sp
      have SG := SF.more kG
      have rL := len_go e.ln x.ln e.sh x.sh (M + 79) ps _ okP .rw hG SG.sp.2
      rw [len_absorb _ initS initS_ok (by simp only [initS]; omega)] at rL
      simp only [initS, Nat.zero_add] at rL
      exact ⟨hG, rG, x_rofH x.ro (M + 80) _ bc1 aA' cA' hG SG.wA.src (by omega), rL, SG⟩
    by_cases hij : i = j
    · have dj : decide ((i : Int) = (j : Int)) = true := decide_eq_true (by omega)
      obtain ⟨hE, rE, sE, kE, nE⟩ := copy_at e.cp x.cp e.sh x.sh (M + 79) ps _ okP hD SD.sp
      have SE := SD.copy kE nE sE
      have ey0 : eyN ls j i = [] := by unfold eyN; rw [if_neg (by omega)]
      have ey1 : eyN ls j (i + 1) = catN ls (i + 1) := by unfold eyN; rw [if_pos (by omega), hij]
      rw [ey0] at SE w8
      have scE := SE.wA.src.cellz cA'
      obtain ⟨aE', cE', eE', hF, apE, SF⟩ := SE.appE (catN ls (i + 1)) (by simp; omega)
      rw [List.nil_append] at apE SF
      obtain ⟨hG, rG, rO, rL, SG⟩ := rest _ _ _ _ _ hF SF
      rw [List.length_nil] at apE w8
      obtain ⟨N1, eN1⟩ : ∃ n, (catN ls i).length = n := ⟨_, rfl⟩
      obtain ⟨N2, eN2⟩ : ∃ n, (catN ls (i + 1)).length = n := ⟨_, rfl⟩
      obtain ⟨n, en⟩ : ∃ n, ls.length = n := ⟨_, rfl⟩
      obtain ⟨ll, ell⟩ : ∃ n, l.length = n := ⟨_, rfl⟩
      rw [eN1] at w7 apD
      rw [eN2] at apD scE apE rO rL wlen dl
      rw [en] at w0 w19 ix rm
      rw [ell] at cg scC apD
      exact ⟨_, hG, by
        simp (config := {maxSteps := 2000000}) (disch := first | omega | (simp only [List.length_cons, List.length_nil, List.length_append, List.length_drop]; omega)) only [R_purserlaw04_ShaPieces_0, R_purserlaw04_ShaPieces_1, w0, w1, w5, w6, w7, w8, w9, w19, w20, gvC, cg, scC, apD, ix, wi, wat, rm, dj, rE, scE, apE, rG, rO, nq, dq, rL, wlen, dl, Bool.not_true, ↓s_append, ↓s_len, x_lenS, ↓b_xor32, ↓b_and32, ↓b_or32, ↓u_not32, b_xor32, b_and32, b_or32, u_not32, w32ad, ↓x_conv, x_convV, ↓x_fieldAddr, x_fieldV, ↓s_nilchk, x_nilchk, Nat.zero_add, Nat.add_zero, Nat.mul_one, ↓s_evD, ↓s_dnil, ↓s_dL, ↓s_dLg, ↓s_dR, ↓s_dRg, ↓s_dRj, ↓s_dRjg, ↓s_dB, ↓s_dBg, ↓s_dAlloc, ↓s_bindD, s_bindD, s_finD, s_finDx, s_addP0, s_addP1, s_addB, s_lookP, ↓s_bump0, ↓s_bump_get, s_bump_next, s_ok0, ↓s_ok1, s_okR0, ↓s_okR1, ↓s_okE, s_okE, s_okE1, s_nth0, s_nthS, Nat.add_zero, Bool.and_self, Bool.and_true, Bool.true_and, ↓l_loop, ↓l_succ, ↓l_normal, l_normal, l_exit, l_ret, l_iteN, ↓h_put_get, ↓h_new_get, ↓h_del_get, h_next_put, h_next_new, h_next_del, Nat.add_assoc, Nat.add_eq_left, Nat.left_eq_add, Nat.add_left_cancel_iff, ↓s_load, m_load, ↓m_load1, m_load1, ↓m_st, m_stE, m_storeI, m_storeE, w_zero, w_succ, ↓s_alloc, ↓x_idxA, ↓x_idxS, x_idxAE, x_idxSE, x_addrE, x_idx, x_lenS, ↓s_len, ↓x_buildS, x_buildE, ↓x_P0, ↓x_P1, x_fill0, x_filli, x_fills, x_fillb, c_int, List.length_cons, List.length_nil, List.cons_append, List.drop_succ_cons, List.drop_zero, List.drop_nil, List.nil_append, Int.reduceAdd, Int.reduceToNat, Int.reduceLT, Int.reduceLE, Nat.reduceAdd, Nat.reduceMul, Nat.reduceLeDiff, Int.reduceEq, Int.reduceSub, Int.cast_ofNat_Int, s_resc, s_consR, m_load4, m_store4, s_res0, ↓s_skip, ↓s_ops, ↓s_dops, ↓s_seq, ↓s_cond, ↓s_block, ↓s_exit, ↓s_ret, ↓s_scope, ↓s_nil, ↓s_op, ↓s_opg, ↓s_wanted', ↓s_wantV, s_wantV, s_wantV0, beq_true, beq_false, ↓s_bindS, s_bindS, ↓s_bindE, s_bindE, s_bindE_ret, s_bindE_exit, s_bindE_iteN, s_norm, ↓s_condV, s_condV, s_block_ret, s_block_normal, s_block_exit, s_block_iteN, ↓s_getp, ↓s_getp0, ↓s_get, s_get0, ↓s_con, ↓s_fn, ↓s_os0, ↓s_os1, ↓s_list0, ↓s_list1, ↓s_mov, ↓s_pick, ↓s_pickE, s_pickE, ↓s_bin, ↓s_un, ↓s_minmax, ↓s_call, ↓s_callv, ↓s_callV, ↓s_ext, s_same, b_eql, b_neq, b_lss, b_leq, b_gtr, b_geq, b_add, b_sub, b_mul, b_eqlb, b_neqb, b_fnil, b_fnil', b_fnil2, b_fnil2', u_neg, u_not, m_two, s_end, s_end', s_end_iteN, s_res0, s_res1, s_tup1, s_tup2, ↓iteN_true, ↓iteN_false, iteN_true, iteN_false, Nat.zero_add, List.nil_append, List.append_nil, Nat.reduceEqDiff, reduceIte, decide_true, decide_false, Bool.not_true, Bool.not_false, List.getElem?_cons_zero, List.getElem?_cons_succ, Bool.false_eq_true, if_true, if_false, beq_self_eq_true]
        exact rfl, ⟨i1, by rw [en]; exact (by (simp only [s_getp, s_getp0, Nat.reduceEqDiff, decide_false, decide_true, iteN_false, iteN_true, w0]; try rfl)), (by (simp only [s_getp, s_getp0, Nat.reduceEqDiff, decide_false, decide_true, iteN_false, iteN_true, w1]; try rfl)), (by (simp only [s_getp, s_getp0, Nat.reduceEqDiff, decide_false, decide_true, iteN_false, iteN_true, w5]; try rfl)), by rw [en]; exact (by (simp only [s_getp, s_getp0, Nat.reduceEqDiff, decide_false, decide_true, iteN_false, iteN_true, w19]; try rfl)), (by (simp only [s_getp, s_getp0, Nat.reduceEqDiff, decide_false, decide_true, iteN_false, iteN_true, w20]; try rfl)), ⟨hD.next, aA', cA', eA', aE', cE', eE', (by (simp only [s_getp, s_getp0, Nat.reduceEqDiff, decide_false, decide_true, iteN_false, iteN_true, w6]; try rfl)), by rw [eN2]; exact (by (simp only [s_getp, s_getp0, Nat.reduceEqDiff, decide_false, decide_true, iteN_false, iteN_true, w7]; try rfl)), by rw [ej, ey1, eN2]; exact (by (simp only [s_getp, s_getp0, Nat.reduceEqDiff, decide_false, decide_true, iteN_false, iteN_true, w8]; try rfl)), by rw [ej, ey1]; exact SG⟩⟩⟩
    · have dj : decide ((i : Int) = (j : Int)) = false := decide_eq_false (by omega)
      have ey1 : eyN ls j (i + 1) = eyN ls j i := by
        unfold eyN
        by_cases c : j < i
        · rw [if_pos c, if_pos (by omega)]
        · rw [if_neg c, if_neg (by omega)]
      obtain ⟨hG, rG, rO, rL, SG⟩ := rest _ _ _ _ _ hD SD
      obtain ⟨N1, eN1⟩ : ∃ n, (catN ls i).length = n := ⟨_, rfl⟩
      obtain ⟨N2, eN2⟩ : ∃ n, (catN ls (i + 1)).length = n := ⟨_, rfl⟩
      obtain ⟨N3, eN3⟩ : ∃ n, (eyN ls j i).length = n := ⟨_, rfl⟩
      obtain ⟨n, en⟩ : ∃ n, ls.length = n := ⟨_, rfl⟩
      obtain ⟨ll, ell⟩ : ∃ n, l.length = n := ⟨_, rfl⟩
      rw [eN1] at w7 apD
      rw [eN2] at apD rO rL wlen dl
      rw [eN3] at w8
      rw [en] at w0 w19 ix rm
      rw [ell] at cg scC apD
      exact ⟨_, hG, by
        simp (config := {maxSteps := 2000000}) (disch := first | omega | (simp only [List.length_cons, List.length_nil, List.length_append, List.length_drop]; omega)) only [R_purserlaw04_ShaPieces_0, R_purserlaw04_ShaPieces_1, w0, w1, w5, w6, w7, w8, w9, w19, w20, gvC, cg, scC, apD, ix, wi, wat, rm, dj, rG, rO, nq, dq, rL, wlen, dl, Bool.not_true, ↓s_append, ↓s_len, x_lenS, ↓b_xor32, ↓b_and32, ↓b_or32, ↓u_not32, b_xor32, b_and32, b_or32, u_not32, w32ad, ↓x_conv, x_convV, ↓x_fieldAddr, x_fieldV, ↓s_nilchk, x_nilchk, Nat.zero_add, Nat.add_zero, Nat.mul_one, ↓s_evD, ↓s_dnil, ↓s_dL, ↓s_dLg, ↓s_dR, ↓s_dRg, ↓s_dRj, ↓s_dRjg, ↓s_dB, ↓s_dBg, ↓s_dAlloc, ↓s_bindD, s_bindD, s_finD, s_finDx, s_addP0, s_addP1, s_addB, s_lookP, ↓s_bump0, ↓s_bump_get, s_bump_next, s_ok0, ↓s_ok1, s_okR0, ↓s_okR1, ↓s_okE, s_okE, s_okE1, s_nth0, s_nthS, Nat.add_zero, Bool.and_self, Bool.and_true, Bool.true_and, ↓l_loop, ↓l_succ, ↓l_normal, l_normal, l_exit, l_ret, l_iteN, ↓h_put_get, ↓h_new_get, ↓h_del_get, h_next_put, h_next_new, h_next_del, Nat.add_assoc, Nat.add_eq_left, Nat.left_eq_add, Nat.add_left_cancel_iff, ↓s_load, m_load, ↓m_load1, m_load1, ↓m_st, m_stE, m_storeI, m_storeE, w_zero, w_succ, ↓s_alloc, ↓x_idxA, ↓x_idxS, x_idxAE, x_idxSE, x_addrE, x_idx, x_lenS, ↓s_len, ↓x_buildS, x_buildE, ↓x_P0, ↓x_P1, x_fill0, x_filli, x_fills, x_fillb, c_int, List.length_cons, List.length_nil, List.cons_append, List.drop_succ_cons, List.drop_zero, List.drop_nil, List.nil_append, Int.reduceAdd, Int.reduceToNat, Int.reduceLT, Int.reduceLE, Nat.reduceAdd, Nat.reduceMul, Nat.reduceLeDiff, Int.reduceEq, Int.reduceSub, Int.cast_ofNat_Int, s_resc, s_consR, m_load4, m_store4, s_res0, ↓s_skip, ↓s_ops, ↓s_dops, ↓s_seq, ↓s_cond, ↓s_block, ↓s_exit, ↓s_ret, ↓s_scope, ↓s_nil, ↓s_op, ↓s_opg, ↓s_wanted', ↓s_wantV, s_wantV, s_wantV0, beq_true, beq_false, ↓s_bindS, s_bindS, ↓s_bindE, s_bindE, s_bindE_ret, s_bindE_exit, s_bindE_iteN, s_norm, ↓s_condV, s_condV, s_block_ret, s_block_normal, s_block_exit, s_block_iteN, ↓s_getp, ↓s_getp0, ↓s_get, s_get0, ↓s_con, ↓s_fn, ↓s_os0, ↓s_os1, ↓s_list0, ↓s_list1, ↓s_mov, ↓s_pick, ↓s_pickE, s_pickE, ↓s_bin, ↓s_un, ↓s_minmax, ↓s_call, ↓s_callv, ↓s_callV, ↓s_ext, s_same, b_eql, b_neq, b_lss, b_leq, b_gtr, b_geq, b_add, b_sub, b_mul, b_eqlb, b_neqb, b_fnil, b_fnil', b_fnil2, b_fnil2', u_neg, u_not, m_two, s_end, s_end', s_end_iteN, s_res0, s_res1, s_tup1, s_tup2, ↓iteN_true, ↓iteN_false, iteN_true, iteN_false, Nat.zero_add, List.nil_append, List.append_nil, Nat.reduceEqDiff, reduceIte, decide_true, decide_false, Bool.not_true, Bool.not_false, List.getElem?_cons_zero, List.getElem?_cons_succ, Bool.false_eq_true, if_true, if_false, beq_self_eq_true]
        exact rfl, ⟨i1, by rw [en]; exact (by (simp only [s_getp, s_getp0, Nat.reduceEqDiff, decide_false, decide_true, iteN_false, iteN_true, w0]; try rfl)), (by (simp only [s_getp, s_getp0, Nat.reduceEqDiff, decide_false, decide_true, iteN_false, iteN_true, w1]; try rfl)), (by (simp only [s_getp, s_getp0, Nat.reduceEqDiff, decide_false, decide_true, iteN_false, iteN_true, w5]; try rfl)), by rw [en]; exact (by (simp only [s_getp, s_getp0, Nat.reduceEqDiff, decide_false, decide_true, iteN_false, iteN_true, w19]; try rfl)), (by (simp only [s_getp, s_getp0, Nat.reduceEqDiff, decide_false, decide_true, iteN_false, iteN_true, w20]; try rfl)), ⟨po, aA', cA', eA', aE, cE, eE, (by (simp only [s_getp, s_getp0, Nat.reduceEqDiff, decide_false, decide_true, iteN_false, iteN_true, w6]; try rfl)), by rw [eN2]; exact (by (simp only [s_getp, s_getp0, Nat.reduceEqDiff, decide_false, decide_true, iteN_false, iteN_true, w7]; try rfl)), by rw [ej, ey1, eN3]; exact (by (simp only [s_getp, s_getp0, Nat.reduceEqDiff, decide_false, decide_true, iteN_false, iteN_true, w8]; try rfl)), by rw [ej, ey1]; exact SG⟩⟩⟩
  obtain ⟨R0, eR0⟩ : ∃ R, R_purserlaw04_ShaPieces_0 = R := ⟨_, rfl⟩
  obtain ⟨R1, eR1⟩ : ∃ R, R_purserlaw04_ShaPieces_1 = R := ⟨_, rfl⟩
  obtain ⟨Lo, eL⟩ : ∃ R, L_purserlaw04_ShaPieces_0 = R := ⟨_, rfl⟩
  obtain ⟨T, u10, u51, u52, u0, u1, u5, u6, u7, u8, u9, u19, u20, ec⟩ : ∃ T, evO T (.t 10) = .slice aO l.length cO eO ∧ evO T (.t 51) = .int .i64 (l.length : Int) ∧ evO T (.t 52) = .int .i64 0 ∧ evO T (.t 0) = .slice (some (q, 0)) ls.length none 1 ∧ evO T (.t 1) = .int .u8 (at_ : Int) ∧ evO T (.t 5) = .ptr (some (ps, 0)) ∧ evO T (.t 6) = .ptr (some (po, 0)) ∧ evO T (.t 7) = .slice aA (catN ls i).length cA eA ∧ evO T (.t 8) = .slice aE (eyN ls (at_ % ls.length) i).length cE eE ∧ evO T (.t 9) = .int .i64 (i : Int) ∧ evO T (.t 19) = .int .i64 (ls.length : Int) ∧ evO T (.t 20) = .int .i64 (i : Int) ∧ evC (callX E X (M + 81)) 121 m none L_purserlaw04_ShaPieces_1 ⟨T0, [], h⟩ = bindE (blockE 1 (bindE (blockE 2 (loopN (evC (callX E X (M + 81)) 121 m none Lo) m ⟨T, [], hB⟩)) (evC (callX E X (M + 81)) 121 m none R0))) (evC (callX E X (M + 81)) 121 m none R1) := by
    obtain ⟨N1, eN1⟩ : ∃ n, (catN ls i).length = n := ⟨_, rfl⟩
    obtain ⟨N3, eN3⟩ : ∃ n, (eyN ls (at_ % ls.length) i).length = n := ⟨_, rfl⟩
    rw [eN3] at t8 ⊢
    obtain ⟨n, en⟩ : ∃ n, ls.length = n := ⟨_, rfl⟩
    obtain ⟨ll, ell⟩ : ∃ n, l.length = n := ⟨_, rfl⟩
    rw [eN1] at t7 ⊢
    rw [en] at t0 t19 c0 ix ⊢
    rw [ell] at cg d0 sc0 apO rB sO sL ⊢
    refine ⟨_, ?_, ?_, ?_, ?_, ?_, ?_, ?_, ?_, ?_, ?_, ?_, ?_, by
      unfold L_purserlaw04_ShaPieces_1
      rw [eR0, eR1, eL]
      simp (config := {maxSteps := 2000000}) (disch := first | omega | (simp only [List.length_cons, List.length_nil, List.length_append, List.length_drop]; omega)) only [t0, t1, t5, t6, t7, t8, t19, t20, zq, gv, gvA, gvB, cg, d0, sc0, apO, rB, pn, sO, sL, sq, c0, ix, b_sneq, Bool.not_true, ↓ns_b2s, ↓s_append, ↓s_len, x_lenS, ↓b_xor32, ↓b_and32, ↓b_or32, ↓u_not32, b_xor32, b_and32, b_or32, u_not32, w32ad, ↓x_conv, x_convV, ↓x_fieldAddr, x_fieldV, ↓s_nilchk, x_nilchk, Nat.zero_add, Nat.add_zero, Nat.mul_one, ↓s_evD, ↓s_dnil, ↓s_dL, ↓s_dLg, ↓s_dR, ↓s_dRg, ↓s_dRj, ↓s_dRjg, ↓s_dB, ↓s_dBg, ↓s_dAlloc, ↓s_bindD, s_bindD, s_finD, s_finDx, s_addP0, s_addP1, s_addB, s_lookP, ↓s_bump0, ↓s_bump_get, s_bump_next, s_ok0, ↓s_ok1, s_okR0, ↓s_okR1, ↓s_okE, s_okE, s_okE1, s_nth0, s_nthS, Nat.add_zero, Bool.and_self, Bool.and_true, Bool.true_and, ↓l_loop, ↓l_succ, ↓l_normal, l_normal, l_exit, l_ret, l_iteN, ↓h_put_get, ↓h_new_get, ↓h_del_get, h_next_put, h_next_new, h_next_del, Nat.add_assoc, Nat.add_eq_left, Nat.left_eq_add, Nat.add_left_cancel_iff, ↓s_load, m_load, ↓m_load1, m_load1, ↓m_st, m_stE, m_storeI, m_storeE, w_zero, w_succ, ↓s_alloc, ↓x_idxA, ↓x_idxS, x_idxAE, x_idxSE, x_addrE, x_idx, x_lenS, ↓s_len, ↓x_buildS, x_buildE, ↓x_P0, ↓x_P1, x_fill0, x_filli, x_fills, x_fillb, c_int, List.length_cons, List.length_nil, List.cons_append, List.drop_succ_cons, List.drop_zero, List.drop_nil, List.nil_append, Int.reduceAdd, Int.reduceToNat, Int.reduceLT, Int.reduceLE, Nat.reduceAdd, Nat.reduceMul, Nat.reduceLeDiff, Int.reduceEq, Int.reduceSub, Int.cast_ofNat_Int, s_resc, s_consR, m_load4, m_store4, s_res0, ↓s_skip, ↓s_ops, ↓s_dops, ↓s_seq, ↓s_cond, ↓s_block, ↓s_exit, ↓s_ret, ↓s_scope, ↓s_nil, ↓s_op, ↓s_opg, ↓s_wanted', ↓s_wantV, s_wantV, s_wantV0, beq_true, beq_false, ↓s_bindS, s_bindS, ↓s_bindE, s_bindE, s_bindE_ret, s_bindE_exit, s_bindE_iteN, s_norm, ↓s_condV, s_condV, s_block_ret, s_block_normal, s_block_exit, s_block_iteN, ↓s_getp, ↓s_getp0, ↓s_get, s_get0, ↓s_con, ↓s_fn, ↓s_os0, ↓s_os1, ↓s_list0, ↓s_list1, ↓s_mov, ↓s_pick, ↓s_pickE, s_pickE, ↓s_bin, ↓s_un, ↓s_minmax, ↓s_call, ↓s_callv, ↓s_callV, ↓s_ext, s_same, b_eql, b_neq, b_lss, b_leq, b_gtr, b_geq, b_add, b_sub, b_mul, b_eqlb, b_neqb, b_fnil, b_fnil', b_fnil2, b_fnil2', u_neg, u_not, m_two, s_end, s_end', s_end_iteN, s_res0, s_res1, s_tup1, s_tup2, ↓iteN_true, ↓iteN_false, iteN_true, iteN_false, Nat.zero_add, List.nil_append, List.append_nil, Nat.reduceEqDiff, reduceIte, decide_true, decide_false, Bool.not_true, Bool.not_false, List.getElem?_cons_zero, List.getElem?_cons_succ, Bool.false_eq_true, if_true, if_false, beq_self_eq_true]
      exact rfl⟩
    all_goals (simp only [s_getp, s_getp0, Nat.reduceEqDiff, decide_false, decide_true, iteN_false, iteN_true, t0, t1, t5, t6, t7, t8, t19, t20]; try rfl)
  rw [ec, ← eR0, ← eR1, ← eL]
  exact fin T u10 u51 u52 u0 u1 u5 u6 u7 u8 u9 u19 u20
end Go.Eng
