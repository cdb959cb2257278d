/- What functions of the program come to: own work. -/
import Derived.Test.YtfopajklnakmpaaBxQ
namespace Go.Eng
open Go
variable {E : Nat → Option Fn} {X : Orc}
set_option linter.unusedSimpArgs false
set_option linter.unusedVariables false
structure EnTw (E : Nat → Option Fn) : Prop where
  sh : EnSha E
  o : E k_sha_Of = some f_sha_Of
  tw : E k_sha_Twice = some f_sha_Twice
structure NoTw (X : Orc) : Prop where
  sh : NoSha X
  o : ∀ a h, X (.fn k_sha_Of) a h = none
  tw : ∀ a h, X (.fn k_sha_Twice) a h = none
theorem z32_st (s : List Nat) (hs : s.length = 32) (Z : List V) (eZ : ofI .u8 (List.replicate 32 0) = Z) :
    (∀ h i, storeV h 32 (.ptr (some (i, 0))) (.agg (ofI .u8 s)) = storeE (h.get i) h i 0 (ofI .u8 s)) ∧ (∀ h i, storeE (some (.cells Z .rw)) h i 0 (ofI .u8 s) = some (h.put i (.cells (ofI .u8 s) .rw))) ∧ (∀ m, loadE (some (.cells (ofI .u8 s) m)) (some 32) 0 = some (.agg (ofI .u8 s))) :=
  ⟨fun h i => st32 h i 0 _ hs, fun h i => by
    rw [m_storeE _ _ _ _ _ (by rw [← eZ, ofI_len, ofI_len, hs, List.length_replicate]; omega), ← eZ, wrAll _ _ _ (by rw [List.length_replicate, hs])], fun m => by rw [m_loadN, x_readAll _ 32 (by rw [ofI_len, hs])]⟩
theorem tw2_go (e : EnTw E) (x : NoTw X) (K : Nat) (hK : 100 < K) (l : List Nat) (hl : l.length < K) (hl2 : l.length ≤ 10000000) (a : Option (Nat × Nat)) (c : Option Nat) (ez : Nat) (h : H) (src : SrcH h a ez l) :
    ∃ h', callX E X (K + 83) (.fn k_sha_Twice) [.slice a l.length c ez] h = some (.agg (ofI .u8 (shaV (shaV l))), h') ∧ Kp h h' := by
  rw [x_cfn e.tw _ _ (Nat.le_of_ble_eq_true rfl) (x.tw _ _)]
  rw [← z32e]
  obtain ⟨Z, eZ⟩ : ∃ Z, ofI .u8 (List.replicate 32 0) = Z := ⟨_, rfl⟩
  rw [eZ]
  obtain ⟨hA, eA⟩ : ∃ hA, h.new (.cells Z .rw) = hA := ⟨_, rfl⟩
  have kA : Kp h hA := by rw [← eA]; exact Kp.new _ _
  have nA : hA.next = h.next + 1 := by rw [← eA]; rfl
  have g0 : hA.get h.next = some (.cells Z .rw) := by rw [← eA]; exact h_new_same _ _
  obtain ⟨h1, r1, k1⟩ := of_go e.sh x.sh e.o x.o K l a c ez hA (by omega) (by omega) (by omega) (src.mono kA)
  have kn1 := k1.1
  obtain ⟨s, es⟩ : ∃ s, shaV l = s := ⟨_, rfl⟩
  have hs : s.length = 32 := by rw [← es]; exact shaV_len l
  obtain ⟨st, pu, ld⟩ := z32_st s hs Z eZ
  rw [es] at r1 ⊢
  obtain ⟨h2, eh2⟩ : ∃ h2, (h1.new (.cells Z .rw)).put h1.next (.cells (ofI .u8 s) .rw) = h2 := ⟨_, rfl⟩
  have k2 : Kp h1 h2 := by rw [← eh2]; (repeat (first | exact Kp.refl _ | refine Kp.put ?_ _ (by first | omega | (simp only [h_next_put, h_next_new, h_next_del]; omega)) | refine Kp.del ?_ (by first | omega | (simp only [h_next_put, h_next_new, h_next_del]; omega)) | refine Kp.trans ?_ (Kp.new _ _)))
  have n2 : h2.next = h1.next + 1 := by rw [← eh2]; rfl
  have gz : (h1.new (.cells Z .rw)).get h1.next = some (.cells Z .rw) := h_new_same _ _
  have g2 : h2.get h1.next = some (.cells (ofI .u8 s) .rw) := by rw [← eh2]; exact h_put_same _ _ _
  obtain ⟨h3, r3, k3⟩ := of_go e.sh x.sh e.o x.o K s (some (h1.next, 0)) (some 32) 1 h2 (by omega) (by omega) (by omega) (.inr ⟨h1.next, 0, ofI .u8 s, .rw, rfl, rfl, by omega, g2, by rw [ofI_len]; omega, by rw [List.drop_zero]; exact List.take_of_length_le (by rw [ofI_len]; omega)⟩)
  rw [hs] at r3
  have kn3 := k3.1
  obtain ⟨s2, es2⟩ : ∃ s2, shaV s = s2 := ⟨_, rfl⟩
  have hs2 : s2.length = 32 := by rw [← es2]; exact shaV_len s
  obtain ⟨st2, pu2, ld2⟩ := z32_st s2 hs2 Z eZ
  rw [es2] at r3 ⊢
  have g3 : h3.get h.next = some (.cells Z .rw) := by rw [k3.2 _ (by omega), k2.2 _ (by omega), k1.2 _ (by omega), g0]
  refine ⟨h3.put h.next (.cells (ofI .u8 s2) .rw), ?_, ⟨by show h.next ≤ h3.next; omega, fun j hj => by rw [h_put_ne _ _ (by omega), k3.2 _ (by omega), k2.2 _ (by omega), k1.2 _ (by omega), kA.2 _ hj]⟩⟩
  have sB : ∀ h i, slcB (some (.cells (ofI .u8 s) .rw)) 32 1 i 0 none none h = some (.slice (some (i, 0)) 32 (some 32) 1, h) := fun h i => slcB_nn _ _ _ _ _ _ (by rw [ofI_len]; omega)
  generalize ofI .u8 s2 = S2 at *
  generalize ofI .u8 s = S1 at *
  generalize l.length = n at *
  simp (config := {maxSteps := 2000000}) (disch := first | omega | (simp only [List.length_cons, List.length_nil, List.length_append, List.length_drop]; omega)) only [eA, r1, st, pu, eh2, g2, r3, g3, st2, pu2, ld2, ↓x_slcA, x_slcAE, sB, x_M0, ↓h_put_get, ↓h_new_get, m_load, ↓m_st, m_stE, ↓s_alloc, s_resc, s_consR, s_res0, ↓s_ops, ↓s_seq, ↓s_ret, ↓s_nil, ↓s_op, ↓s_bindS, s_bindS, ↓s_bindE, s_bindE, s_norm, ↓s_getp, ↓s_getp0, ↓s_get, ↓s_os0, ↓s_os1, ↓s_list0, ↓s_list1, ↓s_mov, ↓s_call, s_end, s_res0, s_tup1, ↓iteN_true, ↓iteN_false, iteN_true, iteN_false, Nat.reduceEqDiff, decide_true, decide_false]
  try rfl
end Go.Eng
namespace Go.Eng
open Go
variable {E : Nat → Option Fn} {X : Orc}
set_option linter.unusedSimpArgs false
set_option linter.unusedVariables false
structure NoAp (X : Orc) : Prop where
  tb : NoTb X
  tw : NoTw X
  cp : NoCp X
  id_ : ∀ a h, X (.fn k_tx_Id) a h = none
theorem NoAp.al : NoAp (alT k_purserlaw06_alive) := by repeat' (first | exact fun _ _ => rfl | exact fun _ _ _ => rfl | exact fun _ => rfl | constructor)
theorem inV_s32 (o : InQ) (b : Option (Nat × Nat)) (cb : Option Nat) (eb n : Nat) (l : o.tx.length = 32) : (inV o b cb eb).set 32 (.int .u32 (n : Int)) = inV ⟨o.tx, n, o.l, o.q⟩ b cb eb := by
  unfold inV
  rw [List.set_append_right _ _ (by rw [ofI_len]; omega), ofI_len, l]; rfl
theorem CpH.tx {h h' h2 : H} {t : TxQ} {q r : Nat} {cs ds : List V} (c : CpH h h' t q r cs ds) (k : Kp h' h2) (lk : Nat) : TxC (fun j => j < h2.next) h2 ⟨t.ver, t.ins, t.outs, lk⟩ (txV ⟨t.ver, t.ins, t.outs, lk⟩ (some (q, 0)) (some (r, 0)) none none 35 2) := by
  have kn := k.1
  have q2 := c.q2
  have r2 := c.r2
  refine ⟨_, _, _, _, _, _, rfl, .inr ⟨q, 0, cs, .rw, rfl, rfl, by omega, by omega, by rw [k.2 _ c.q2, c.gq], by rw [c.lc]; show 0 + t.ins.length * 35 ≤ t.ins.length * 35; omega, fun i o ho => ?_⟩, .inr ⟨r, 0, ds, .rw, rfl, rfl, by omega, by omega, by rw [k.2 _ c.r2, c.gr], by rw [c.ld]; show 0 + t.outs.length * 2 ≤ t.outs.length * 2; omega, fun i o ho => ?_⟩⟩
  · rw [Nat.zero_add]
    exact itIn.mono (c.ai i o ho) kn (fun j _ hn => k.2 _ hn) (fun j _ hn => by omega)
  · rw [Nat.zero_add]
    exact itOut.mono (c.ao i o ho) kn (fun j _ hn => k.2 _ hn) (fun j _ hn => by omega)
theorem CpH.tw {h h' h2 h3 : H} {t : TxQ} {q r : Nat} {cs ds : List V} (c : CpH h h' t q r cs ds) (i0 : InQ) (rest : List InQ) (et : t.ins = i0 :: rest) (n : Nat) (k : Kp h' h2) (e3 : h2.put q (.cells (cs.set 32 (.int .u32 (n : Int))) .rw) = h3) : TxC (fun j => j < h3.next) h3 ⟨t.ver, ⟨i0.tx, n, i0.l, i0.q⟩ :: rest, t.outs, t.lock⟩ (txV t (some (q, 0)) (some (r, 0)) none none 35 2) := by
  have kn := k.1
  have q2 := c.q2
  have r2 := c.r2
  have qr := c.qr
  have n3 : h3.next = h2.next := by rw [← e3]; rfl
  have g3 : h3.get q = some (.cells (cs.set 32 (.int .u32 (n : Int))) .rw) := by rw [← e3]; exact h_put_same _ _ _
  have f3 : ∀ j, j ≠ q → h3.get j = h2.get j := fun j hj => by rw [← e3, h_put_ne _ _ (Ne.symm hj)]
  have ll : t.ins.length = rest.length + 1 := by rw [et]; rfl
  have lc := c.lc
  refine ⟨some (q, 0), some (r, 0), none, none, 35, 2, by rw [txV, txV, ll]; rfl, .inr ⟨q, 0, _, .rw, rfl, rfl, by omega, by omega, g3, by rw [List.length_set, lc, ll, List.length_cons]; omega, fun i o ho => ?_⟩, .inr ⟨r, 0, ds, .rw, rfl, rfl, by omega, by omega, by rw [f3 _ (Ne.symm qr), k.2 _ c.r2, c.gr], by rw [c.ld]; show 0 + t.outs.length * 2 ≤ t.outs.length * 2; omega, fun i o ho => ?_⟩⟩
  · rw [Nat.zero_add]
    have pt := part35 cs 0 i (.int .u32 (n : Int)) 32 (by omega)
    rw [Nat.zero_mul, Nat.zero_add] at pt
    rw [pt]
    cases i with
    | zero =>
      rw [if_pos rfl]
      cases ho
      obtain ⟨b, cb, eb, eP, ss, l32⟩ := c.ai 0 i0 (by rw [et]; rfl)
      rw [eP]
      exact ⟨b, cb, eb, inV_s32 i0 b cb eb n l32, ss.mono2 (by omega) (fun j hj hn => by rw [f3 _ hj.2.1, k.2 _ hn]) (fun j _ hn => by omega), l32⟩
    | succ i =>
      rw [if_neg (by omega)]
      exact itIn.mono (c.ai (i + 1) o (by rw [et]; exact ho)) (by omega) (fun j hj hn => by rw [f3 _ hj.2.1, k.2 _ hn]) (fun j _ hn => by omega)
  · rw [Nat.zero_add]
    exact itOut.mono (c.ao i o ho) (by omega) (fun j hj hn => by rw [f3 _ hj.2.1, k.2 _ hn]) (fun j _ hn => by omega)
end Go.Eng
