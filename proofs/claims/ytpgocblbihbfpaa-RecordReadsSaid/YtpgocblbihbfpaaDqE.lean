/- What functions of the program come to: own work. -/
import Derived.Test.YtpgocblbihbfpaaDqD
namespace Go.Eng
open Go
variable {E : Nat → Option Fn} {X : Orc}
set_option linter.unusedSimpArgs false
set_option linter.unusedVariables false
theorem RrF.row {lo : Nat} {h : H} {dn : List Rq} {a : Option (Nat × Nat)} {c : Option Nat} {e : Nat} (r : RrF lo h dn a c e) : RrS h dn a e := by
  rcases r with ⟨r, _⟩ | ⟨h1, q, md, ps, e1, e2, e3, g, al, hm, hq, hl⟩
  · exact .inl r
  · refine .inr ⟨q, 0, _, md, e1, e3, hq, g, by rw [flat_len (k := 2) (ral_len2 al), al.len]; omega, fun i o ho => ?_⟩
    obtain ⟨p, hp, b, cb, eb, rfl, s, _⟩ := al.get i o ho
    exact ⟨b, cb, eb, by rw [Nat.zero_add]; exact flat_get (ral_len2 al) i _ hp, s.src⟩
/-- what is read -/
theorem rd_of : ∀ (n : Nat) (b : List Nat), byt b = true → b.length ≤ n →
    (∀ o ∈ (rdV n b).1, rqOk o = true ∧ o.ok ∧ o.l.length ≤ b.length) ∧ rB (rdV n b).1 = b.take (rdV n b).2 ∧ (rdV n b).2 ≤ b.length ∧ dcV (b.drop (rdV n b).2) = none ∧ 13 * (rdV n b).1.length ≤ b.length := by
  intro n
  induction n with
  | zero =>
    intro b bb hb
    obtain rfl : b = [] := List.length_eq_zero_iff.1 (by omega)
    exact ⟨fun o ho => (by cases ho), rfl, Nat.le_refl _, rfl, Nat.le_refl _⟩
  | succ n ih =>
    intro b bb hb
    rw [rd_succ]
    cases hd : dcV b with
    | none =>
      refine ⟨fun o ho => (by cases ho), ?_, Nat.zero_le _, ?_, Nat.zero_le _⟩
      · simp [rB]
      · simp only [List.drop_zero]; exact hd
    | some z =>
      obtain ⟨o, k⟩ := z
      obtain ⟨f1, f2, f3, f4, f5⟩ := dc_of _ bb o k hd
      obtain ⟨g1, g2, g3, g4, g5⟩ := ih (b.drop k) (byt_drop bb _) (by rw [List.length_drop]; omega)
      rw [List.length_drop] at g1 g3 g5
      simp only
      refine ⟨fun o' ho => ?_, ?_, by omega, by rw [List.drop_drop] at g4; exact g4, ?_⟩
      · rcases List.mem_cons.1 ho with rfl | ho
        · exact ⟨f1, f2, by omega⟩
        · obtain ⟨k1, k2, k3⟩ := g1 o' ho; exact ⟨k1, k2, by omega⟩
      · have : rB (o :: (rdV n (b.drop k)).1) = rqB o ++ rB (rdV n (b.drop k)).1 := by unfold rB; rw [List.map_cons, List.flatten_cons]
        rw [this, g2, ← f3, List.take_add]
      · rw [List.length_cons]; omega
theorem all_go (e : EnRd E) (x : NoRd X) (M : Nat) (hM : 50100 < M) (s : List Nat) (bs : byt s = true) (hs : s.length ≤ 50000) (at_ : Int) (a : Option (Nat × Nat)) (c : Option Nat) (ez : Nat) (sb : SB s a c ez) (h : H) (src : SrcH h a ez s) :
    ∃ h' ar cr er, callX E X (M + 25) (.fn k_record_All) [.slice a s.length c ez, .int .i64 at_] h = some (.tup [.slice ar (raR s at_).1.length cr er, .int .i64 ((raR s at_).2 : Int)], h') ∧ Kp h h' ∧ RrF h.next h' (raR s at_).1 ar cr er := by
  unfold raR
  by_cases hc : 0 ≤ at_ ∧ at_ ≤ s.length
  · rw [if_pos hc]
    obtain ⟨n, rfl⟩ := Int.eq_ofNat_of_zero_le hc.1
    exact all_ok e x M hM s bs hs n (by omega) a c ez sb h src
  · rw [if_neg hc]
    obtain ⟨h', r, k⟩ := all_bad e x (M + 23) s.length at_ (by omega) a c ez h
    exact ⟨h', none, some 0, 0, r, k, .inl ⟨rfl, rfl, rfl, rfl⟩⟩
end Go.Eng
namespace Go.Eng
open Go
variable {E : Nat → Option Fn} {X : Orc}
set_option linter.unusedSimpArgs false
set_option linter.unusedVariables false
theorem rqB_byt (o : Rq) (h : rqOk o = true) (ok : o.ok) : byt (rqB o) = true := by
  unfold rqOk at h
  simp only [Bool.and_eq_true, decide_eq_true_eq] at h
  unfold rqB mkB4
  refine byt_app (byt_app (byt_iff.2 (fun y hy => ?_)) (leN_byt _ _)) (byt_app ok.bl (leN_byt _ _))
  rcases List.mem_cons.1 hy with rfl | hy
  · omega
  · exact byt_iff.1 (leN_byt 4 _) y hy
end Go.Eng
namespace Go.Eng
open Go
variable {E : Nat → Option Fn} {X : Orc}
set_option linter.unusedSimpArgs false
set_option linter.unusedVariables false
theorem RqsH.row {h : H} {a : Option (Nat × Nat)} {ops : List Rq} (r : RqsH h a ops) : RrS h ops a 2 := by
  obtain ⟨parts, al, r⟩ := r
  have pl : ∀ p ∈ parts, p.length = 2 := by
    clear r
    induction al with
    | nil => intro p hp; cases hp
    | cons h1 _ ih => intro p hp; rcases List.mem_cons.1 hp with rfl | hp
                      · obtain ⟨a, rfl, _⟩ := h1; rfl
                      · exact ih p hp
  rcases r with r | ⟨k, md, rfl, hk, g⟩
  · exact .inl r
  · refine .inr ⟨k, 0, _, md, rfl, rfl, hk, g, by rw [flat_len (k := 2) pl, al.len]; omega, fun i o ho => ?_⟩
    obtain ⟨p, hp, b, rfl, s⟩ := al.get i o ho
    exact ⟨b, none, 1, by rw [Nat.zero_add]; exact flat_get pl i _ hp, s⟩
end Go.Eng
namespace Go.Eng
open Go
set_option linter.unusedSimpArgs false
set_option linter.unusedVariables false
/-! a run of turned bits is found: a step with no bit loses nothing -/
/-- the lowest k bits, the lowest first -/
def bits : Nat → Nat → List Nat
  | 0, _ => []
  | k + 1, t => t % 2 :: bits k (t / 2)
end Go.Eng
namespace Go.Eng
open Go
set_option linter.unusedSimpArgs false
set_option linter.unusedVariables false
theorem getD_drop (l : List Nat) (n i : Nat) : (l.drop n).getD i 0 = l.getD (n + i) 0 := by
  rw [List.getD_eq_getElem?_getD, List.getD_eq_getElem?_getD, List.getElem?_drop]
end Go.Eng
namespace Go.Eng
open Go
variable {E : Nat → Option Fn} {X : Orc}
set_option linter.unusedSimpArgs false
set_option linter.unusedVariables false
theorem stAnyR (k : IntKind) (l : List Nat) (c : List V) (md : Md) (hmd : isRo md = false) (h : H) (i off : Nat) (hl : off + c.length ≤ l.length) : storeE (some (.cells (ofI k l) md)) h i off c = some (h.put i (.cells (writeN (ofI k l) off c) md)) := by
  unfold storeE
  cases md with
  | ro => cases hmd
  | rw => simp only [show Nat.ble (off + c.length) (ofI k l).length = true from by rw [ofI_len]; exact Nat.ble_eq_true_of_le hl, _root_.cond_true]
  | sh => simp only [show Nat.ble (off + c.length) (ofI k l).length = true from by rw [ofI_len]; exact Nat.ble_eq_true_of_le hl, _root_.cond_true]
end Go.Eng
